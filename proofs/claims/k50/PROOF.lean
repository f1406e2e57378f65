import PyProof.Rows.All
import Wide.All
import OpenK.AllK
import Wide.FinOn
import HandS.ForMost
import HandS.ForExc
import HandS.SetKeys
import HandS.Strs
import HandS.Set
import HandS.More
import HandS.Wide
import HandS.IsInst
import HandS.ExcInit
import HandS.CallLocal
import HandS.TupAny
import HandS.Codes
import KE.GoesEnum
import HandS.WrittenGet
import HandS.Nested
import HandS.HeadWalk
import KE.KSuper
import HandS.ExcField
import HandS.TryMany
import HandS.OwnEq
import KE.KExcIs
import HandS.ExcIs
import HandS.ExcOwn
import PyProof.InstNe
import HandS.Small
import HandS.SetTxt0
import HandS.SetFor
import KE.KDictZip
import KE.GoesMore
import HandS.Zip
import HandS.ListItems
import HandS.List
import HandS.StrMore
import KE.KRevSl
import HandS.Text
import HandS.Conv
import PyProof.CollectWalk
import HandS.Defaults
import HandS.MakeKwOnly
import HandS.DeepEq
import PyProof.EqLayable
import HandS.HeadHook4
import HandS.HeadEnd
import HandS.Head2
import PySem.Challenge.RW_toldonward_k50_verdict_pairs
set_option Elab.async false
set_option maxRecDepth 100000
set_option maxHeartbeats 0
set_option linter.all false
/-! Own rules beside the hand layer: for any program. -/
namespace TdSet
open PySem PySem.Spec PyProof.Rows SS
/-- how many different ones stand among the first i -/
def dcnt (xs : List Str) : Nat → Nat
  | 0 => 0
  | i + 1 => if (xs.take i).any (· == xs.getD i Str.empty) = true then dcnt xs i else dcnt xs i + 1
theorem dcnt_le (xs : List Str) : ∀ i, dcnt xs i ≤ i
  | 0 => Nat.le_refl _
  | i + 1 => by
    have := dcnt_le xs i
    unfold dcnt
    split <;> omega
theorem dcnt_full {xs : List Str} : ∀ {i : Nat}, i ≤ xs.length → dcnt xs i = i → (xs.take i).Nodup
  | 0, _, _ => by simp
  | i + 1, hi, h => by
    have hl := dcnt_le xs i
    unfold dcnt at h
    split at h
    · omega
    · rename_i hn
      have ih := dcnt_full (xs := xs) (i := i) (by omega) (by omega)
      have hx : i < xs.length := by omega
      rw [List.take_succ_eq_append_getElem hx]
      refine List.nodup_append.mpr ⟨ih, by simp, ?_⟩
      intro a ha b hb hab
      have e : b = xs[i] := by simpa using hb
      apply hn
      refine List.any_eq_true.mpr ⟨a, ha, ?_⟩
      rw [hab, e, List.getD_eq_getElem?_getD, List.getElem?_eq_getElem hx]
      simp
theorem dcnt_nodup {xs : List Str} : ∀ {i : Nat}, i ≤ xs.length → (xs.take i).Nodup → dcnt xs i = i
  | 0, _, _ => rfl
  | i + 1, hi, h => by
    have hx : i < xs.length := by omega
    rw [List.take_succ_eq_append_getElem hx] at h
    obtain ⟨h1, _, h3⟩ := List.nodup_append.mp h
    have ih := dcnt_nodup (xs := xs) (i := i) (by omega) h1
    unfold dcnt
    rw [if_neg, ih]
    intro hh
    obtain ⟨a, ha, hb⟩ := List.any_eq_true.mp hh
    rw [List.getD_eq_getElem?_getD, List.getElem?_eq_getElem hx] at hb
    exact h3 a ha xs[i] (by simp) (by simpa using hb)
/-- the set at S has met the first i texts -/
def Met (prog : Program) (w : World) (S : Addr) (xs : List Str) (i : Nat) (h : Heap) : Prop := h.SetOf (PySem.strKind prog w) S (fun z => (xs.take i).any (· == z)) (dcnt xs i)
theorem Met.move {prog : Program} {w : World} {S : Addr} {xs : List Str} {i : Nat} {h h' : Heap} (m : Met prog w S xs i h) (k : ∀ o, h.get? S = some o → h'.get? S = some o) : Met prog w S xs i h' := by
  obtain ⟨o, es, ep, tb, e, r⟩ := m
  exact ⟨o, es, ep, tb, k o e, r⟩
/-- one text more -/
theorem Met.more {prog : Program} {w : World} {S : Addr} {xs : List Str} {i : Nat} {h : Heap} {z : Str} (hz : xs[i]? = some z)
    (m : h.SetOf (PySem.strKind prog w) S (fun y => (xs.take i).any (· == y) || decide (y = z)) (if (xs.take i).any (· == z) = true then dcnt xs i else dcnt xs i + 1)) : Met prog w S xs (i + 1) h := by
  have e : xs.take (i + 1) = xs.take i ++ [z] := by rw [List.take_add_one, hz]; rfl
  refine SetOf_congr m (fun y => ?_) ?_
  · rw [e, List.any_append]
    congr 1
    by_cases q : y = z
    · rw [q]; simp
    · have : ¬ z = y := fun h => q h.symm
      simp [q, this]
  · show _ = (if (xs.take i).any (· == xs.getD i Str.empty) = true then dcnt xs i else dcnt xs i + 1)
    rw [List.getD_eq_getElem?_getD, hz]
    rfl
section
variable {prog : Program} {w : World} {A : Around} {R : Result → Shared → Prop} {I S : Addr} {fp wr : List Addr} {G : Array GenState → Array GenState → Prop} {i : Nat} {P : Nat → Value → Prop} {St : Nat → Shared → Prop} {xs : List Str} {s : Shared}
/-- an iterator whose item i is the text i of xs -/
structure Turns (prog : Program) (w : World) (A : Around) (I : Addr) (fp wr : List Addr) (G : Array GenState → Array GenState → Prop) (xs : List Str) (P : Nat → Value → Prop) (St : Nat → Shared → Prop) : Prop where
  walks : WalksS prog w A I fp wr G xs.length P St
  texts : ∀ i v, P i v → ∃ z t, xs[i]? = some z ∧ v = .str z t
/-- the loop's code, one round of it -/
theorem round_of (h : wpAny (model prog w) A.in1 (Builtin.«set.update.loop» ⟨[.ref S, .ref I], []⟩) (fun fin s' => match fin with | .done f => R (.ok f) s' | .again c => c.quiet = true ∧ codeAny (model prog w) A c R s') (fun e s' => R (.error e) s') s) :
    codeAny (model prog w) A (.builtin "set.update.loop" ⟨[.ref S, .ref I], []⟩) R s :=
  codeAny_builtin PyProof.Rows.F.entry_set_update_loop (by rw [Around.under_plainId PyProof.Rows.F.plain_set_update_loop _]; exact h)
theorem last_round (W : Turns prog w A.in1 I fp wr G xs P St) (ns : S ∉ wr) (hst : St xs.length s) (hS : Met prog w S xs xs.length s.heap)
    (fin : ∀ s', Moved wr G s s' → Met prog w S xs xs.length s'.heap → R (.ok (.ret .none)) s') : codeAny (model prog w) A (.builtin "set.update.loop" ⟨[.ref S, .ref I], []⟩) R s :=
  round_of (wpAny_bind (W.walks.done s _ _ hst fun s' hm => wpAny_pure (fin s' hm (hS.move fun o e => hm.heap S o ns e))))
theorem next_round (W : Turns prog w A.in1 I fp wr G xs P St) (hf : S ∉ fp) (hn : xs.length < 4000) (hi : i < xs.length) (hst : St i s) (hS : Met prog w S xs i s.heap)
    (go : ∀ s', St (i + 1) s' → Met prog w S xs (i + 1) s'.heap → Moved (S :: wr) G s s' → codeAny (model prog w) A (.builtin "set.update.loop" ⟨[.ref S, .ref I], []⟩) R s') :
    codeAny (model prog w) A (.builtin "set.update.loop" ⟨[.ref S, .ref I], []⟩) R s := by
  refine round_of (wpAny_bind (W.walks.item i s _ _ hi hst fun v s1 hv st1 m1 => ?_))
  obtain ⟨z, t, hz, rfl⟩ := W.texts i v hv
  have hd := dcnt_le xs i
  have S1 := hS.move fun o e => m1.heap S o (fun h => hf (W.walks.sub _ h)) e
  refine wpAny_bind (wpAny_holding (wpAny_holding (wpAny_bind ((PySem.strKind prog w).pyHash (k := z) (strKind_is _ _ _ _) (wpAny_setAddHashed_of (knd := PySem.strKind prog w) (s := { s1 with toks := s1.toks + 1 }) (strKind_is _ _ _ _) rfl S1 (by unfold scanBound; omega) fun h2 sb S2 => ?_)))))
  have keep : ∀ b o, b ≠ S → s1.heap.get? b = some o → h2.get? b = some o := fun b o nb e => by rw [sb.2 b nb]; exact e
  refine wpAny_pure ⟨plainId_quiet PyProof.Rows.F.plain_set_update_loop _, go _ (W.walks.frame _ s1 _ _ st1 (Nat.le_succ _) fun b hb o e => keep b o (fun q => hf (q ▸ hb)) e) (Met.more hz S2) ?_⟩
  exact (m1.mono fun b hb => List.mem_cons_of_mem _ hb).then_heap (Nat.le_succ _) fun b o hb e => keep b o (fun q => hb (q ▸ List.mem_cons_self)) e
theorem rounds (W : Turns prog w A.in1 I fp wr G xs P St) (hf : S ∉ fp) (hn : xs.length < 4000) : ∀ (left i : Nat) (s : Shared), i + left = xs.length → St i s → Met prog w S xs i s.heap →
    (∀ s', Moved (S :: wr) G s s' → Met prog w S xs xs.length s'.heap → R (.ok (.ret .none)) s') → codeAny (model prog w) A (.builtin "set.update.loop" ⟨[.ref S, .ref I], []⟩) R s
  | 0, i, s, e, st, m, fin => by
    have e : i = xs.length := e
    subst e
    exact last_round W (fun h => hf (W.walks.sub _ h)) st m fun s' mv m' => fin s' (mv.mono fun b hb => List.mem_cons_of_mem _ hb) m'
  | left + 1, i, s, e, st, m, fin =>
    next_round W hf hn (by omega) st m fun s1 st1 m1 mv1 => rounds W hf hn left (i + 1) s1 (by omega) st1 m1 fun s2 mv2 m2 => fin s2 (Moved.trans W.walks.gtrans mv1 mv2) m2
end
section
variable {prog : Program} {w : World} {A : Around} {E : Value → Shared → Prop} {s : Shared}
/-- the new set's own beginning: it takes the tuple's texts -/
theorem init_texts {R : Result → Shared → Prop} {S l : Addr} {o : Obj} {items : Array Value} {xs : List Str} {led : Bool} (hh : A.handled = none) (hS : s.heap.get? S = some { cls := .type "set", dict := none, data := .set #[] 0 (.fresh 0 0 led) })
    (ho : s.heap.get? l = some o) (hc : o.cls = .type "tuple") (hd : ∃ nl, o.data = .seq items nl) (hne : l ≠ S) (hi : PyProof.Rows.StrsAre items.toList xs) (hn : xs.length < 4000)
    (fin : ∀ (h' : Heap) (tk : Nat), Met prog w S xs xs.length h' → (∀ b u, b ≠ S → s.heap.get? b = some u → h'.get? b = some u) → R (.ok (.ret .none)) { s with heap := h', toks := tk }) :
    wpAny (model prog w) A.in1 (Builtin.«set.__init__» ⟨[.ref S, .ref l], []⟩) (fun fin s' => match fin with | .done f => R (.ok f) s' | .again c => c.quiet = true ∧ codeAny (model prog w) A c R s') (fun e s' => R (.error e) s') s := by
  have ht : s.heap.IsTuple l items := let ⟨nl, e⟩ := hd; ⟨o, ho, hc, nl, e⟩
  have q1 : s.TypeIs (.ref l) "tuple" := ⟨o, ho, hc⟩
  have q2 := PySem.F.sub_tuple_set
  have q3 := PySem.F.sub_tuple_frozenset
  have q4 : (Value.type "tuple" == Value.type "dict") = false := by decide
  unfold Builtin.«set.__init__» noKeywords Builtin.Frozenset.updateFrom
  generalize ePI : pyIter = PI
  wp_walk
  subst ePI
  refine wpAny_pyIter_tuple ht (wpAny_bind (wpAny_runValue ?_))
  have sz : (s.heap.push { cls := .type "tuple_iterator", data := .fields #[.ref l, .int 0 0] }).objs.size = s.heap.objs.size + 1 := Heap.size_push ..
  have lS : S < s.heap.objs.size := Heap.lt_size hS
  have ll : l < s.heap.objs.size := Heap.lt_size ho
  have len : xs.length = items.size := by rw [← StrsAre.len_eq hi, Array.length_toList]
  have W0 := (Walks.tuple (prog := prog) (w := w) (A := A.in1.in1) (by simpa using hh) s.heap.objs.size l (Nat.ne_of_lt ll) items).toS
  rw [← len] at W0
  have nf : S ∉ [s.heap.objs.size, l] := fun m => by
    rcases List.mem_cons.mp m with e | e
    · exact absurd (e ▸ lS) (Nat.lt_irrefl _)
    · exact hne (List.mem_singleton.mp e).symm
  have M0 : Met prog w S xs 0 (s.heap.push { cls := .type "tuple_iterator", data := .fields #[.ref l, .int 0 0] }) :=
    PyProof.Rows.SetOf_congr ((PyProof.Rows.setObjOf_fresh (knd := PySem.strKind prog w) led).setOf (Heap.get?_push_of_some _ hS) (by unfold scanBound; omega)) (fun _ => rfl) rfl
  refine rounds ⟨W0, fun i v hv => ?_⟩ nf hn xs.length 0 { s with heap := s.heap.push { cls := .type "tuple_iterator", data := .fields #[.ref l, .int 0 0] } } (Nat.zero_add _) ⟨⟨_, Heap.get?_push_size _ rfl, rfl, rfl⟩, ht.push _⟩ M0 fun s2 mv m => ?_
  · obtain ⟨t, e⟩ := strs_at hi i v (by rw [Array.getElem?_toList]; exact hv)
    have hx : i < xs.length := by rw [len]; exact (Array.getElem?_eq_some_iff.mp hv).1
    exact ⟨xs[i], t, List.getElem?_eq_getElem hx, by rw [e, List.getD_eq_getElem?_getD, List.getElem?_eq_getElem hx]; rfl⟩
  · obtain ⟨h2, g2, d2, t2, o2⟩ := s2
    cases (show g2 = s.gens from mv.gens)
    cases (show d2 = s.drawn from mv.drawn)
    cases (show o2 = s.os from mv.os)
    refine wpAny_pure (wpAny_pure (fin h2 t2 m fun b u nb e => mv.heap b u (fun q => ?_) (Heap.get?_push_of_some _ e)))
    rcases List.mem_cons.mp q with q | q
    · exact nb q
    · have := Heap.lt_size e
      rw [List.mem_singleton.mp q] at this
      exact Nat.lt_irrefl _ this
end
section
variable {prog : Program} {w : World} {A : Around} {E : Value → Shared → Prop} {s : Shared}
/-- set(x), over what the new set begins with -/
theorem set_by {x : Value} {Q : Value → Shared → Prop} (go : ∀ led : Bool, wpAny (model prog w) A.in1.in1 (Builtin.«set.__init__» ⟨[.ref s.heap.objs.size, x], []⟩)
      (fun fin s' => match fin with | .done f => wants (fun r s2 => r = .none ∧ s2.TypeIs (.ref s.heap.objs.size) "set" ∧ Q (.ref s.heap.objs.size) s2) E (.ok f) s' | .again c => c.quiet = true ∧ codeAny (model prog w) A.in1 c (wants (fun r s2 => r = .none ∧ s2.TypeIs (.ref s.heap.objs.size) "set" ∧ Q (.ref s.heap.objs.size) s2) E) s')
      (fun e s' => wants (fun r s2 => r = .none ∧ s2.TypeIs (.ref s.heap.objs.size) "set" ∧ Q (.ref s.heap.objs.size) s2) E (.error e) s')
      { s with heap := s.heap.push { cls := .type "set", dict := none, data := .set #[] 0 (.fresh 0 0 led) } }) :
    wpAny (model prog w) A (call (.type "set") [x]) Q E s := by
  have k1 := PySem.F.called_set
  obtain ⟨c, tl, k2⟩ := k1.mro
  have k3 := k1.made
  have k4 := k1.sub
  have k5 := k1.notType
  have k6 := k1.canCreate
  have k7 := PySem.F.typeCall_set_1 x
  refine wpAny_call (codeAny_of_tree (wpAny_pure ⟨Code.quiet_builtin _ (by decide +kernel), codeAny_builtin PySem.F.entry_type_call ?_⟩))
  rw [Around.under_plain (weight_type_call_type "set" [x] []) rfl]
  repeat (any_goals (first | assumption | wp_step))
  refine codeAny_mono (code_set_new_1 x (E := E) (Q₁ := fun y s1 => ∃ led : Bool, y = .ref s.heap.objs.size ∧ s1 = { s with heap := s.heap.push { cls := .type "set", dict := none, data := .set #[] 0 (.fresh 0 0 led) } }) fun led => ⟨led, rfl, rfl⟩) fun r s1 hr => ?_
  match r, hr with
  | .error e, hr => exact hr
  | .ok (.ret y), hr =>
    obtain ⟨led, rfl, rfl⟩ := hr
    have k8 := k1.init.lookup
    have k9 := k1.init.bind (.ref s.heap.objs.size)
    have ty : Shared.TypeIs { s with heap := s.heap.push { cls := .type "set", dict := none, data := .set #[] 0 (.fresh 0 0 led) } } (.ref s.heap.objs.size) "set" := ⟨_, Heap.get?_push_size _ rfl, rfl⟩
    repeat (any_goals (first | assumption | wp_step))
    refine codeAny_mono (codeAny_call_builtin k1.init.plain PySem.F.entry_set_init (check_set_init_1 ty (go led))) fun r2 s2 h2 => ?_
    match r2, h2 with
    | .error e, h2 => exact h2
    | .ok (.ret y), h2 =>
      obtain ⟨rfl, ty2, q⟩ := h2
      repeat (any_goals (first | assumption | wp_step))
/-- set(t) of a tuple of texts -/
theorem set_of_texts {l : Addr} {items : Array Value} {xs : List Str} {Q : Value → Shared → Prop} (hh : A.handled = none) (hl : s.heap.IsTuple l items) (hi : PyProof.Rows.StrsAre items.toList xs) (hn : xs.length < 4000)
    (q : ∀ (h' : Heap) (tk : Nat), Met prog w s.heap.objs.size xs xs.length h' → (∀ b u, s.heap.get? b = some u → h'.get? b = some u) → Q (.ref s.heap.objs.size) { s with heap := h', toks := tk }) :
    wpAny (model prog w) A (call (.type "set") [.ref l]) Q E s := by
  obtain ⟨o, ho, hc, hd⟩ := hl
  have lt := Heap.lt_size ho
  refine set_by fun led => init_texts (A := A.in1) (by simpa using hh) (Heap.get?_push_size _ rfl) (Heap.get?_push_of_some _ ho) hc hd (Nat.ne_of_lt lt) hi hn fun h' tk m k => ⟨rfl, ?_, q h' tk m fun b u e => k b u (Nat.ne_of_lt (Heap.lt_size e)) (Heap.get?_push_of_some _ e)⟩
  exact PySem.Heap.SetOf.typeIs (s := { s with heap := h', toks := tk }) m
end
end TdSet
namespace Td
open PySem PySem.Spec PyProof.Rows L2
section
variable {X : Cx}
/-- len(set(t)), t a tuple of texts -/
def tLenSetT (K : PySem.W.Frag) (t : TE) : TE := fun σ H Q => t σ H fun x H1 => ∃ (l : Addr) (xs : List Str), x = .ref l ∧ SqT K H1 l (xs.map V.str) ∧ xs.length < 4000 ∧ Q (.int (TdSet.dcnt xs xs.length : Nat)) H1
theorem pe_lenSetT {a : Expr} {t : TE} {p p2 q pos : Pos} (hc : X.calm = true) (g1 : Gl X "len") (m1 : X.mg "len" = none) (g2 : Gl X "set") (m2 : X.mg "set" = none) (ha : PE X a t)
    (na : starEach [a] X.env = (false, eval a X.env) :: starEach [] X.env := by rfl) (no : starEach [.Call (.Name "set" p2) [a] [] q] X.env = (false, eval (.Call (.Name "set" p2) [a] [] q) X.env) :: starEach [] X.env := by rfl) :
    PE X (.Call (.Name "len" p) [.Call (.Name "set" p2) [a] [] q] [] pos) (tLenSetT X.K t) := by
  refine ⟨fun pins s σ H Q I h => wpAny_Call_Name_kw (ld_blt I g1 m1 boot_len (PyProof.Rows.callWith_builtin1 (PyProof.Rows.args_cons (wpAny_Call_Name_kw (ld_blt I g2 m2 boot_set (PyProof.Rows.callWith_type1 (PyProof.Rows.args_cons (thn (ha.run pins s σ H _ I h) fun v s1 ⟨x, H1, I1, r1, l, xs, ex, hq, hn, k⟩ => PyProof.Rows.args_nil ?_) na) na rfl))) no) no rfl))⟩
  subst ex
  cases r1
  obtain ⟨us, r, tp, _⟩ := I1.tuple hq
  refine TdSet.set_of_texts (I1.ok.hd hc) tp (xs := xs) (by simpa using strsAre_of r) hn fun h' tk m kp => PyProof.Rows.args_nil ?_
  have J : Inv X pins σ H1 { s1 with heap := h', toks := tk } := I1.kept kp
  have dl := TdSet.dcnt_le xs xs.length
  obtain ⟨o, es, ep, tb, e1, e2, e3, _, _, _, e7, e8⟩ := m
  exact call_len_set e1 e2 e3 e7 (by rw [e8]; omega) ⟨.int (TdSet.dcnt xs xs.length : Nat), H1, J.tok _, ⟨_, by rw [e8]⟩, k⟩
end
/-- xs[i] op= e on a list -/
def rGetL : V → V → Hp → VK → Prop := fun o i H Q => ∃ p xs k v, o = .ref p ∧ i = .int k ∧ H p = some (.lst xs) ∧ atI xs k = some v ∧ Q v H
end Td
namespace Td
open PySem PySem.Spec PyProof.Rows L2
section
variable {X : Cx}
/-! ### a written dict, asked by .get -/
def KTab (K : PySem.W.Frag) (w : World) (a : Addr) : Prop :=
  ∃ es n, K.lookup a = some ⟨.type "dict", none, .dict es n, #[]⟩ ∧ PySem.W.KeysLit w.params es.toList ∧ (a == sysModules) = false
def tKGet (K : PySem.W.Frag) (w : World) (td ty : TE) : TE := fun σ H Q => td σ H fun x H1 => ∃ a, x = .ref a ∧ KTab K w a ∧
  ty σ H1 fun y H2 => ∃ z, y = .str z ∧ ((∃ v, KDct K w a z v ∧ Q v H2) ∨ (PySem.W.nsIn K a z = some none ∧ Q .non H2))
theorem pe_kget {o e : Expr} {td ty : TE} {apos cpos : Pos} (ho : PE X o td) (he : PE X e ty) (m : M1 X o "get" apos e cpos) :
    PE X (.Call (.Attribute o "get" apos) [e] [] cpos) (tKGet X.K X.w td ty) := by
  refine ⟨fun pins s σ H Q I h => ?_⟩
  refine wpAny_Call_method m.base m.few m.line PySem.F.plainAttrs_dict PySem.F.slot_dict_get PySem.F.type_dict_get
    (thn (ho.run pins s σ H _ I h) fun u s1 ⟨x, H1, I1, rx, a, ex, ⟨es, n, hl, hk, low⟩, q1⟩ => ?_)
  subst ex
  obtain rfl : u = Value.ref a := rx
  have hm := PySem.W.mapOf_K (prog := X.prog) (w := X.w) I1.kIn hl hk
  refine ⟨hm.typeIs, hm.noDict, ?_⟩
  rw [m.trees]
  refine Calls.callWith_builtin rfl (Calls.evalArgs_plain (Calls.spliced_cons
    (thn (he.run pins s1 σ H1 _ I1 q1) fun iv s2 ⟨y, H2, I2, ry, z, ey, q2⟩ => Calls.spliced_nil ?_)))
  subst ey
  obtain ⟨t, rfl⟩ := ry
  have hm2 := PySem.W.mapOf_K (prog := X.prog) (w := X.w) I2.kIn hl hk
  rcases q2 with ⟨v, ⟨es', n', u0, hl', hk', e0, ru⟩, q⟩ | ⟨e0, q⟩
  · refine call_meetsIn PySem.F.slot_dict_get hm2.typeIs PySem.F.entry_dict_get (PySem.F.args_dict_get_2 _ _)
      (meets_dict_get (strKind X.prog X.w) a (strKind_is X.prog X.w z t) low) ⟨_, hm2, ?_⟩
    have := PySem.W.find_K hl e0
    rw [this]
    exact ⟨v, H2, I2.tok _, ru, q⟩
  · refine call_meetsIn PySem.F.slot_dict_get hm2.typeIs PySem.F.entry_dict_get (PySem.F.args_dict_get_2 _ _)
      (meets_dict_get (strKind X.prog X.w) a (strKind_is X.prog X.w z t) low) ⟨_, hm2, ?_⟩
    have := PySem.W.find_K hl e0
    rw [this]
    exact ⟨.non, H2, I2.tok _, rfl, q⟩

/-! ### xs[i] of a list, by values -/
def rGetLi (K : PySem.W.Frag) : V → V → Hp → VK → Prop := fun o i H Q => ∃ (p : Addr) (xs : List V) (k : Nat) (v : V), o = .ref p ∧ i = .int (k : Nat) ∧ SqL K H p xs ∧ xs[k]? = some v ∧ Q v H
theorem get_list : PGet X (rGetLi X.K) := by
  intro pins s σ H o i ov iv Q I ro ri h
  obtain ⟨p, xs, k, v, rfl, rfl, hp, hv, q⟩ := h
  obtain ⟨its, r, pl, hz⟩ := I.list hp
  obtain rfl : ov = Value.ref p := ro
  obtain ⟨t, rfl⟩ := ri
  obtain ⟨w, ew, rw'⟩ := r.get hv
  have hn := line63
  have hk := (List.getElem?_eq_some_iff.mp hv).1
  have fin : EP X pins σ Q w s := ⟨v, H, I, rw', q⟩
  exact wpAny_getItem_list pl.isList (by omega) (by omega) (by rw [Int.toNat_natCast, List.getElem?_toArray]; exact ew) fin
end
/-! ### enumerate of a tuple -/
def IteT (K : PySem.W.Frag) (a : Addr) : It :=
  ⟨fun i H => ∃ (xs : List V) (x : V), SqT K H a xs ∧ xs[i]? = some x,
   fun i H v H' => ∃ T x, v = .ref T ∧ H T = none ∧ H' = upd H T (.tup [.int (i : Nat), x]) ∧ ∀ xs, SqT K H a xs → xs[i]? = some x,
   fun i H => ∃ xs : List V, SqT K H a xs ∧ xs.length = i⟩
theorem turn_enumT {P : Program} {w : World} {K : PySem.W.Frag} {elts : List Expr} {kk : Nat} {tpos : Pos} (a e it : Addr) :
    Turn P w K (.Tuple elts kk tpos) (IteT K a) [e, it] e
      (fun i h => (∃ old, IsEnum h e it ((i : Nat) : Int) old) ∧ h.IsTupleIter it a i ∧ e ≠ it) where
  mem := by simp
  obj := fun i h st b hb => by
    obtain ⟨⟨old, he⟩, ⟨o, ho, hc, hd⟩, _⟩ := st
    have e' : b = e ∨ b = it := by simpa using hb
    rcases e' with z | z
    · subst z; exact ⟨_, he, fun v q => nomatch q⟩
    · subst z; exact ⟨o, ho, fun v q => by rw [hd] at q; cases q⟩
  keep := fun i h h' st k => by
    obtain ⟨⟨old, he⟩, hi, hne⟩ := st
    exact ⟨⟨old, k e (by simp) _ he⟩, hi.at fun o q => k it (by simp) o q, hne⟩
  item := by
    intro X hP hw hK hc i pins s σ H E I hf st hg
    subst hP hw hK
    obtain ⟨⟨old, he⟩, hit, hne⟩ := st
    obtain ⟨xs, x, hq, hx⟩ := hg
    obtain ⟨its, rv, p, hz⟩ := I.tuple hq
    obtain ⟨u, hu, ru⟩ := rv.get hx
    have hel : e < s.heap.objs.size := Heap.lt_size he
    have hil : it < s.heap.objs.size := by obtain ⟨_, q, _⟩ := hit; exact Heap.lt_size q
    have hai : a ≠ it := fun z => by
      obtain ⟨o1, g1, c1, _⟩ := hit
      obtain ⟨o2, g2, c2, _⟩ := p
      rw [z, g1] at g2
      cases g2
      rw [c1] at c2
      exact absurd c2 (by decide)
    have hae : a ≠ e := fun z => by
      obtain ⟨o2, g2, c2, _⟩ := p
      rw [z, show s.heap.get? e = some _ from he] at g2
      cases g2
      change Value.type "enumerate" = Value.type "tuple" at c2
      exact absurd c2 (by decide)
    have hh : X.A.in1.handled = none := by simp [I.ok.hd hc]
    have D := Draws.tuple (prog := X.prog) (w := X.w) hh it a hai its.toArray
    have hlt : i < its.toArray.size := by
      rw [List.size_toArray, ← rv.length]
      exact (List.getElem?_eq_some_iff.mp hx).1
    refine wpAny_pyNext_enum_itemD D he ⟨hit, p⟩ hlt hne (by simp [hne, Ne.symm hae]) fun y h' tk hy ho hit' hT hsz hk => ?_
    have hyu : y = u := by
      have : its.toArray[i]? = some y := hy
      rw [List.getElem?_toArray, hu] at this
      exact (Option.some.inj this).symm
    subst hyu
    refine ⟨_, rfl, wpAny_letOwnedTupleGo_enum (s := { s with heap := h', toks := tk + 1 }) ho fun h2 he2 sb => ?_⟩
    have hT2 : h2.get? s.heap.objs.size = some { cls := .type "tuple", data := .seq #[.int i tk, y] } :=
      (sb.2 _ (Nat.ne_of_gt hel)).trans hT
    have new : ObjOk X.prog X.w (upd H s.heap.objs.size (.tup [.int (i : Nat), x])) h2 s.heap.objs.size (.tup [.int (i : Nat), x]) :=
      ⟨by show 2 ≤ sizeLine; decide, [.int i tk, y], .cons ⟨_, rfl⟩ (.cons ru .nil), ⟨_, hT2, rfl, _, rfl⟩⟩
    have I1 : L2.Inv X pins σ (upd H s.heap.objs.size (.tup [.int (i : Nat), x])) { s with heap := h2, toks := tk + 1 } :=
      I.turnedNew (ch := [e, it]) (fun b ob hb q => (sb.2 b (fun z => hb (by simp [z]))).trans
        (hk b ob (fun z => hb (by simp [z])) (fun z => hb (by simp [z])) q)) hf (Nat.le_refl _) new
    refine ⟨.ref s.heap.objs.size, _, I1, rfl, ⟨_, x, rfl, I.hok.fresh (Nat.le_refl _), rfl, fun ys hy => by rw [I.tuple_inj hy hq]; exact hx⟩,
      ⟨⟨y, ?_⟩, hit'.1.at fun o q => (sb.2 it (Ne.symm hne)).trans q, hne⟩, fun b hb => ?_⟩
    · have e1 : ((i + 1 : Nat) : Int) = (i : Int) + 1 := by omega
      rw [e1]; exact he2
    · have hb' : b < s.heap.objs.size := by
        have e' : b = e ∨ b = it := by simpa using hb
        rcases e' with z | z
        · subst z; exact hel
        · subst z; exact hil
      rw [upd_ne (Nat.ne_of_lt hb')]
      exact (hf b hb).1
  done := by
    intro X hP hw hK hc i pins s σ H E I hf st hg
    subst hP hw hK
    obtain ⟨⟨old, he⟩, hit, hne⟩ := st
    obtain ⟨xs, hq, hx⟩ := hg
    obtain ⟨its, rv, p, hz⟩ := I.tuple hq
    obtain ⟨f0, f1, f2, f3, f4, f5⟩ := hf it (by simp)
    have hai : a ≠ it := fun z => by
      obtain ⟨o1, g1, c1, _⟩ := hit
      obtain ⟨o2, g2, c2, _⟩ := p
      rw [z, g1] at g2
      cases g2
      rw [c1] at c2
      exact absurd c2 (by decide)
    have hh : X.A.in1.handled = none := by simp [I.ok.hd hc]
    have D := Draws.tuple (prog := X.prog) (w := X.w) hh it a hai its.toArray
    have hn : its.toArray.size = i := by rw [List.size_toArray, ← rv.length]; exact hx
    refine wpAny_pyNext_enum_endD D he ⟨by rw [hn]; exact hit, p⟩ fun h' eb => ⟨rfl, I.turned (t' := s.toks) (fun b o hb q => eb b o hb q) f0 f1 f3 f4 f5⟩
  self := fun A i s Q E st h => let ⟨⟨_, he⟩, _⟩ := st; wpAny_pyIter_enum he h

/-- enumerate(t) made -/
theorem meets_enumT {v : Value} {o : Obj} {H : Heap → Prop} (B : Begins v o H) :
    Meets (Builtin.«enumerate.__new__» ⟨[.type "enumerate", v], []⟩) (fun _ R s => H s.heap ∧
      R (.ok (.ret (.ref (s.heap.push o).objs.size)))
        { s with heap := (s.heap.push o).push { cls := .type "enumerate", data := .fields #[.none, .bool false, .ref s.heap.objs.size, rawInt 0, .none, .none] } }) :=
  .of_wp fun prog w A R s h => by
    obtain ⟨hp, g, d, tk, os⟩ := s; obtain ⟨h1, h⟩ := h
    have hsub := sub_enumerate
    have q1 : ∀ {A' : Around} {E : Value → Shared → Prop} {Q : Value → Shared → Prop}, Q (.ref hp.objs.size) ⟨hp.push o, g, d, tk, os⟩ →
        wpAny (model prog w) A' (pyIter v) Q E ⟨hp, g, d, tk, os⟩ := fun q => B.iter prog w _ _ ⟨hp, g, d, tk, os⟩ _ h1 q
    wp_walk using q1
    refine wpAny_stack_any fun st => wpAny_pure ?_
    split
    · rename_i c _ _ _ _ _
      cases (c == Value.type "enumerate")
      · wp_walk using q1
        exact ⟨_, rfl, h⟩
      · wp_walk using q1
        exact ⟨_, rfl, h⟩
    · wp_walk using q1
      exact ⟨_, rfl, h⟩
def iEnumT (K : PySem.W.Frag) (ta : TA) : TI := fun σ H R => ta σ H fun vs H1 => ∃ a xs, vs = [.ref a] ∧ SqT K H1 a xs ∧ R (IteT K a) H1
theorem pi_enumT {X : Cx} {e : Expr} {ta : TA} {p pos tpos : Pos} {elts : List Expr} {kk : Nat} (hg : Gl X "enumerate") (hm : X.mg "enumerate" = none)
    (ha : PA X [e] ta) (hs : starEach [e] X.env = [(false, eval e X.env)] := by rfl) :
    PI X (.Tuple elts kk tpos) (.Call (.Name "enumerate" p) [e] [] pos) (iEnumT X.K ta) := by
  refine ⟨fun pins s σ H R I h => ?_⟩
  refine Call_ (ld_blt I hg hm boot_enumerate (PyProof.Rows.callWith_type1 (thn (ha.run pos pins s σ H _ I h) fun us s1 ⟨vs, H1, I1, r1, q1⟩ => ?_) hs rfl))
  obtain ⟨a, xs, ex, hq, q⟩ := q1
  subst ex
  cases r1 with
  | cons r rr =>
    cases rr
    cases r
    obtain ⟨its, rv, p', hz⟩ := I1.tuple hq
    refine callType_new F.called_enumerate (by decide) (F.typeCall_enumerate_1 _) (F.newCall_enumerate_1 _) (fun obj => F.args_object_init_2 obj _)
      F.entry_enumerate_new (meets_enumT (begins_tuple a its.toArray)) ⟨p', ?_⟩
    have z1 : (s1.heap.push { cls := .type "tuple_iterator", data := .fields #[.ref a, .int 0 0] }).objs.size = s1.heap.objs.size + 1 := Heap.size_push ..
    show _ ∧ _
    rw [z1]
    have he : IsEnum ((s1.heap.push { cls := .type "tuple_iterator", data := .fields #[.ref a, .int 0 0] }).push
        { cls := .type "enumerate", data := .fields #[.none, .bool false, .ref s1.heap.objs.size, rawInt 0, .none, .none] })
        (s1.heap.objs.size + 1) s1.heap.objs.size 0 .none := by
      have := Heap.get?_push_size (s1.heap.push { cls := .type "tuple_iterator", data := .fields #[.ref a, .int 0 0] })
        (o := { cls := .type "enumerate", data := .fields #[.none, .bool false, .ref s1.heap.objs.size, rawInt 0, .none, .none] }) rfl
      rw [z1] at this; exact this
    refine ⟨⟨_, he, rfl⟩, ?_⟩
    refine wpAny_pyIter_enum he ?_
    have I2 : L2.Inv X pins σ H1 ⟨(s1.heap.push { cls := .type "tuple_iterator", data := .fields #[.ref a, .int 0 0] }).push { cls := .type "enumerate", data := .fields #[.none, .bool false, .ref s1.heap.objs.size, rawInt 0, .none, .none] }, s1.gens, s1.drawn, s1.toks, s1.os⟩ :=
      I1.kept (t' := s1.toks) fun b o x => Heap.get?_push_of_some _ (Heap.get?_push_of_some _ x)
    refine ⟨s1.heap.objs.size + 1, [s1.heap.objs.size + 1, s1.heap.objs.size], _, _, H1, rfl, I2, turn_enumT a (s1.heap.objs.size + 1) s1.heap.objs.size,
      ⟨⟨.none, he⟩, ⟨_, Heap.get?_push_of_some _ (Heap.get?_push_size _ rfl), rfl, rfl⟩, Nat.succ_ne_self _⟩, fun b hb => ?_, q⟩
    have e' : b = s1.heap.objs.size + 1 ∨ b = s1.heap.objs.size := by simpa using hb
    have hle : s1.heap.objs.size ≤ b := by
      rcases e' with z | z
      · rw [z]; exact Nat.le_succ _
      · rw [z]; exact Nat.le_refl _
    exact I1.fpOk hle (I1.hok.fresh hle)
end Td
/-! Data: what stays, data in the heap, names, rows. -/
namespace Td
open PySem PySem.Spec PyProof.Rows L2

/-! ### what stays while the object at st changes -/
def Keep (st : Addr) (H H' : Hp) : Prop := ∀ b o, b ≠ st → H b = some o → H' b = some o
theorem Keep.refl (st : Addr) (H : Hp) : Keep st H H := fun _ _ _ h => h
theorem Keep.trans {st : Addr} {H H1 H2 : Hp} (a : Keep st H H1) (b : Keep st H1 H2) : Keep st H H2 := fun c o n h => b c o n (a c o n h)
theorem Keep.upd {st : Addr} {H : Hp} {o : HO} : Keep st H (upd H st o) := fun b u n h => by rw [upd_ne n]; exact h
theorem Keep.new {st p : Addr} {H : Hp} {o : HO} (h : H p = none) : Keep st H (L2.upd H p o) := fun b u n e => by
  rw [upd_ne (ne_of_none e h)]; exact e
theorem Keep.free {st p : Addr} {H H' : Hp} (k : Keep st H H') (n : p ≠ st) (h : H' p = none) : H p = none := by
  cases e : H p with
  | none => rfl
  | some o => rw [k p o n e] at h; cases h
/-- an object that was not there at first is changed -/
theorem Keep.own {st p : Addr} {H H' : Hp} {o : HO} (k : Keep st H H') (h : H p = none) : Keep st H (L2.upd H' p o) := fun b u nb e => by
  rw [upd_ne (ne_of_none e h)]; exact k b u nb e
theorem Same.new {H : Hp} {p : Addr} (h : H p = none) (o : HO) : Same H (upd H p o) := fun b u e => by
  rw [upd_ne (ne_of_none e h)]; exact e
theorem Same.keep {H H' : Hp} (h : Same H H') (st : Addr) : Keep st H H' := fun b o _ e => h b o e

/-! ### immutable and mutable data, away from st -/
section
variable {K : PySem.W.Frag} {H H' : Hp} {a : Addr} {xs : List V}
theorem SqT.same (s : Same H H') (h : SqT K H a xs) : SqT K H' a xs := by
  rcases h with (h | ⟨o, h⟩) | h
  · exact .inl (.inl (s _ _ h))
  · exact .inl (.inr ⟨o, s _ _ h⟩)
  · exact .inr h
theorem SqL.same (s : Same H H') (h : SqL K H a xs) : SqL K H' a xs := s.seq h
theorem SqT.keep {st : Addr} (s : Keep st H H') (n : a ≠ st) (h : SqT K H a xs) : SqT K H' a xs := by
  rcases h with (h | ⟨o, h⟩) | h
  · exact .inl (.inl (s _ _ n h))
  · exact .inl (.inr ⟨o, s _ _ n h⟩)
  · exact .inr h
theorem SqL.keep {st : Addr} (s : Keep st H H') (n : a ≠ st) (h : SqL K H a xs) : SqL K H' a xs := by
  rcases h with (h | ⟨o, h⟩) | h
  · exact .inl (.inl (s _ _ n h))
  · exact .inl (.inr ⟨o, s _ _ n h⟩)
  · exact .inr h
end
mutual
/-- data at a value, none of its objects at st -/
inductive Dn (K : PySem.W.Frag) (st : Addr) (H : Hp) : V → PyData → Prop
  | non : Dn K st H .non .none
  | bl (b : Bool) : Dn K st H (.bl b) (.bool b)
  | int (i : Int) : Dn K st H (.int i) (.int i)
  | str (x : Str) : Dn K st H (.str x) (.str x)
  | lst {a : Addr} {xs : List V} {ds : List PyData} : a ≠ st → SqL K H a xs → DnAll K st H xs ds → Dn K st H (.ref a) (.list ds)
  | tup {a : Addr} {xs : List V} {ds : List PyData} : a ≠ st → SqT K H a xs → DnAll K st H xs ds → Dn K st H (.ref a) (.tuple ds)
inductive DnAll (K : PySem.W.Frag) (st : Addr) (H : Hp) : List V → List PyData → Prop
  | nil : DnAll K st H [] []
  | cons {v : V} {vs : List V} {d : PyData} {ds : List PyData} : Dn K st H v d → DnAll K st H vs ds → DnAll K st H (v :: vs) (d :: ds)
end
section
variable {K : PySem.W.Frag} {H H' : Hp} {st : Addr}
mutual
theorem Dn.keep (s : Keep st H H') : ∀ {v : V} {d : PyData}, Dn K st H v d → Dn K st H' v d
  | _, _, .non => .non
  | _, _, .bl b => .bl b
  | _, _, .int b => .int b
  | _, _, .str b => .str b
  | _, _, .lst n q r => .lst n (SqL.keep s n q) (DnAll.keep s r)
  | _, _, .tup n q r => .tup n (SqT.keep s n q) (DnAll.keep s r)
theorem DnAll.keep (s : Keep st H H') : ∀ {v : List V} {d : List PyData}, DnAll K st H v d → DnAll K st H' v d
  | _, _, .nil => .nil
  | _, _, .cons a b => .cons (Dn.keep s a) (DnAll.keep s b)
end
mutual
theorem Dn.dp : ∀ {v : V} {d : PyData}, Dn K st H v d → Dp K H v d
  | _, _, .non => .non
  | _, _, .bl b => .bl b
  | _, _, .int b => .int b
  | _, _, .str b => .str b
  | _, _, .lst n q r => .lst q (DnAll.dp r)
  | _, _, .tup n q r => .tup q (DnAll.dp r)
theorem DnAll.dp : ∀ {v : List V} {d : List PyData}, DnAll K st H v d → DpAll K H v d
  | _, _, .nil => .nil
  | _, _, .cons a b => .cons (Dn.dp a) (DnAll.dp b)
end
mutual
theorem Dp.same (s : Same H H') : ∀ {v : V} {d : PyData}, Dp K H v d → Dp K H' v d
  | _, _, .non => .non
  | _, _, .bl b => .bl b
  | _, _, .int b => .int b
  | _, _, .str b => .str b
  | _, _, .lst q r => .lst (SqL.same s q) (DpAll.same s r)
  | _, _, .tup q r => .tup (SqT.same s q) (DpAll.same s r)
theorem DpAll.same (s : Same H H') : ∀ {v : List V} {d : List PyData}, DpAll K H v d → DpAll K H' v d
  | _, _, .nil => .nil
  | _, _, .cons a b => .cons (Dp.same s a) (DpAll.same s b)
end
theorem DpAll.length : ∀ {vs : List V} {ds : List PyData}, DpAll K H vs ds → vs.length = ds.length
  | _, _, .nil => rfl
  | _, _, .cons _ r => by rw [List.length_cons, List.length_cons, DpAll.length r]
theorem DpAll.get : ∀ {vs : List V} {ds : List PyData} {i : Nat} {v : V}, DpAll K H vs ds → vs[i]? = some v → ∃ d, ds[i]? = some d ∧ Dp K H v d
  | _, _, _, _, .nil, h => by simp at h
  | _, _, 0, _, .cons a _, h => by simp at h; subst h; exact ⟨_, rfl, a⟩
  | _, _, i + 1, v, .cons _ r, h => by
    obtain ⟨d, h1, h2⟩ := DpAll.get (i := i) (v := v) r (by simpa using h)
    exact ⟨d, by simpa using h1, h2⟩
theorem DpAll.append : ∀ {vs ws : List V} {ds es : List PyData}, DpAll K H vs ds → DpAll K H ws es → DpAll K H (vs ++ ws) (ds ++ es)
  | _, _, _, _, .nil, h => h
  | _, _, _, _, .cons a r, h => .cons a (DpAll.append r h)
theorem DpAll.strs (zs : List Str) : DpAll K H (zs.map V.str) (zs.map PyData.str) := by
  induction zs with
  | nil => exact .nil
  | cons z r ih => exact .cons (.str z) ih
theorem DnAll.strs (zs : List Str) : DnAll K st H (zs.map V.str) (zs.map PyData.str) := by
  induction zs with
  | nil => exact .nil
  | cons z r ih => exact .cons (.str z) ih
theorem DnAll.append : ∀ {vs ws : List V} {ds es : List PyData}, DnAll K st H vs ds → DnAll K st H ws es → DnAll K st H (vs ++ ws) (ds ++ es)
  | _, _, _, _, .nil, h => h
  | _, _, _, _, .cons a r, h => .cons a (DnAll.append r h)
theorem DnAll.length : ∀ {vs : List V} {ds : List PyData}, DnAll K st H vs ds → vs.length = ds.length
  | _, _, .nil => rfl
  | _, _, .cons _ r => by rw [List.length_cons, List.length_cons, DnAll.length r]
theorem DnAll.get : ∀ {vs : List V} {ds : List PyData} {i : Nat} {v : V}, DnAll K st H vs ds → vs[i]? = some v → ∃ d, ds[i]? = some d ∧ Dn K st H v d
  | _, _, _, _, .nil, h => by simp at h
  | _, _, 0, _, .cons a _, h => by simp at h; subst h; exact ⟨_, rfl, a⟩
  | _, _, i + 1, v, .cons _ r, h => by
    obtain ⟨d, h1, h2⟩ := DnAll.get (i := i) (v := v) r (by simpa using h)
    exact ⟨d, by simpa using h1, h2⟩
/-- a tuple's value -/
theorem Dp.tup_inv {v : V} {ds : List PyData} (h : Dp K H v (.tuple ds)) : ∃ a xs, v = .ref a ∧ SqT K H a xs ∧ DpAll K H xs ds := by
  cases h with
  | tup q r => exact ⟨_, _, rfl, q, r⟩
theorem Dn.tup_inv {v : V} {ds : List PyData} (h : Dn K st H v (.tuple ds)) : ∃ a xs, v = .ref a ∧ a ≠ st ∧ SqT K H a xs ∧ DnAll K st H xs ds := by
  cases h with
  | tup n q r => exact ⟨_, _, rfl, n, q, r⟩
theorem Dp.str_inv {v : V} {z : Str} (h : Dp K H v (.str z)) : v = .str z := by cases h; rfl
theorem Dn.str_inv {v : V} {z : Str} (h : Dn K st H v (.str z)) : v = .str z := by cases h; rfl
theorem DpAll.strs_inv : ∀ {vs : List V} {zs : List Str}, DpAll K H vs (zs.map PyData.str) → vs = zs.map V.str
  | vs, [], h => by cases h; rfl
  | vs, z :: zs, h => by
    cases h with
    | cons a r => cases a; rw [DpAll.strs_inv r]; rfl
theorem DnAll.strs_inv : ∀ {vs : List V} {zs : List Str}, DnAll K st H vs (zs.map PyData.str) → vs = zs.map V.str
  | vs, [], h => by cases h; rfl
  | vs, z :: zs, h => by
    cases h with
    | cons a r => cases a; rw [DnAll.strs_inv r]; rfl
theorem DnAll.of_dp_new {p : Addr} {o : HO} {vs : List V} {ds : List PyData} (h : DnAll K st H vs ds) (hp : H p = none) : DnAll K st (upd H p o) vs ds := DnAll.keep (Keep.new hp) h
theorem Dn.new {p : Addr} {o : HO} {v : V} {d : PyData} (h : Dn K st H v d) (hp : H p = none) : Dn K st (upd H p o) v d := Dn.keep (Keep.new hp) h
end

/-! ### names -/
def lowc (c : Nat) : Bool := decide (97 ≤ c) && decide (c ≤ 122)
def isNm (z : Str) : Bool := decide (1 ≤ z.length) && decide (z.length ≤ 8) && z.cps.toList.all lowc

/-! ### rows -/
inductive Row where
  | rd (pk : Bool) (c s : Str)
  | put (s w : Str)
  | give (s : Str)
  | say (s : Str)
  | wr (c s : Str)
  | ite (s w : Str) (y n : List Row)
mutual
def rowD : Row → PyData
  | .rd pk c s => .tuple [.str (if pk then "peek" else "read"), .str c, .str s]
  | .put s w => .tuple [.str "put", .str s, .str w]
  | .give s => .tuple [.str "give", .str s]
  | .say s => .tuple [.str "say", .str s]
  | .wr c s => .tuple [.str "write", .str c, .str s]
  | .ite s w y n => .tuple [.str "if", .str s, .str w, .tuple (rowsD y), .tuple (rowsD n)]
def rowsD : List Row → List PyData
  | [] => []
  | r :: rs => rowD r :: rowsD rs
end
theorem rowsD_length : ∀ rs, (rowsD rs).length = rs.length
  | [] => by unfold rowsD; rfl
  | r :: rs => by unfold rowsD; rw [List.length_cons, List.length_cons, rowsD_length rs]
theorem rowsD_append : ∀ rs ts, rowsD (rs ++ ts) = rowsD rs ++ rowsD ts
  | [], ts => by simp [rowsD]
  | r :: rs, ts => by simp only [List.cons_append, rowsD, rowsD_append rs ts]
theorem rowsD_get : ∀ {rs : List Row} {i : Nat} {r : Row}, rs[i]? = some r → (rowsD rs)[i]? = some (rowD r)
  | [], i, r, h => by simp at h
  | x :: rs, 0, r, h => by simp at h; subst h; unfold rowsD; rfl
  | x :: rs, i + 1, r, h => by
    unfold rowsD
    rw [List.getElem?_cons_succ]
    exact rowsD_get (by simpa using h)
mutual
def cnt : Row → Nat
  | .ite _ _ y n => 1 + cnts y + cnts n
  | .rd .. => 1
  | .put .. => 1
  | .give .. => 1
  | .say .. => 1
  | .wr .. => 1
def cnts : List Row → Nat
  | [] => 0
  | r :: rs => cnt r + cnts rs
end
theorem cnts_append : ∀ rs ts, cnts (rs ++ ts) = cnts rs + cnts ts
  | [], ts => by simp [cnts]
  | r :: rs, ts => by
    simp only [List.cons_append, cnts, cnts_append rs ts]; omega
/-- what the rows of a body may be and may name -/
structure Sc where
  eff : Bool
  words : List Str
  sources : List Str
  readable : List Str
mutual
def okR (S : Sc) (dep : Nat) : Row → Prop
  | .rd pk c s => (pk = true → S.eff = true) ∧ c ∈ S.readable ∧ isNm s = true
  | .put s w => isNm s = true ∧ w ∈ S.words
  | .give s => S.eff = false ∧ isNm s = true
  | .say s => S.eff = true ∧ isNm s = true
  | .wr c s => S.eff = true ∧ c ∈ S.sources ∧ isNm s = true
  | .ite s w y n => dep ≤ 3 ∧ isNm s = true ∧ w ∈ S.words ∧ okRs S (dep + 1) y ∧ okRs S (dep + 1) n
def okRs (S : Sc) (dep : Nat) : List Row → Prop
  | [] => True
  | r :: rs => okR S dep r ∧ okRs S dep rs
end
theorem okRs_append {S : Sc} {dep : Nat} : ∀ {rs ts}, okRs S dep rs → okRs S dep ts → okRs S dep (rs ++ ts)
  | [], ts, _, h => h
  | r :: rs, ts, h, h2 => by
    unfold okRs at h
    show okRs S dep (r :: (rs ++ ts))
    unfold okRs
    exact ⟨h.1, okRs_append h.2 h2⟩
theorem okRs_get {S : Sc} {dep : Nat} : ∀ {rs : List Row} {i : Nat} {r : Row}, okRs S dep rs → rs[i]? = some r → okR S dep r
  | [], i, r, _, h => by simp at h
  | x :: rs, 0, r, ok, h => by
    unfold okRs at ok
    simp at h; subst h; exact ok.1
  | x :: rs, i + 1, r, ok, h => by
    unfold okRs at ok
    exact okRs_get ok.2 (by simpa using h)
theorem okRs_one {S : Sc} {dep : Nat} {r : Row} (h : okR S dep r) : okRs S dep [r] := by
  unfold okRs
  exact ⟨h, by unfold okRs; trivial⟩
end Td
namespace Td
open PySem PySem.Spec PyProof.Rows L2
/-- an if whose test is known -/
theorem if_true_of {c : Bool} {A B : Prop} (hc : c = true) (h : A) : if c = true then A else B := by
  rw [if_pos hc]; exact h
theorem if_false_of {c : Bool} {A B : Prop} (hc : c = false) (h : B) : if c = true then A else B := by
  rw [hc, if_neg Bool.false_ne_true]; exact h
def rowTag : Row → Str
  | .rd pk _ _ => if pk then "peek" else "read"
  | .put .. => "put"
  | .give .. => "give"
  | .say .. => "say"
  | .wr .. => "write"
  | .ite .. => "if"
def isIte : Row → Bool
  | .ite .. => true
  | _ => false
theorem tag_if (r : Row) : decide (V.str (rowTag r) = V.str "if") = isIte r := by
  cases r with
  | rd pk c s =>
    cases pk
    · show decide (V.str "read" = V.str "if") = false; decide +kernel
    · show decide (V.str "peek" = V.str "if") = false; decide +kernel
  | put => show decide (V.str "put" = V.str "if") = false; decide +kernel
  | give => show decide (V.str "give" = V.str "if") = false; decide +kernel
  | say => show decide (V.str "say" = V.str "if") = false; decide +kernel
  | wr => show decide (V.str "write" = V.str "if") = false; decide +kernel
  | ite => show decide (V.str "if" = V.str "if") = true; decide +kernel
section
variable {K : PySem.W.Frag} {H H' : Hp} {st : Addr} {v : V}
/-- a row's tuple -/
theorem row_at {r : Row} (h : Dp K H v (rowD r)) : ∃ a xs, v = .ref a ∧ SqT K H a xs ∧ xs[0]? = some (.str (rowTag r)) := by
  cases r with
  | rd pk c s =>
    obtain ⟨a, xs, rfl, hS, hD⟩ := Dp.tup_inv (by unfold rowD at h; exact h)
    cases hD with | cons h1 _ => cases h1; exact ⟨a, _, rfl, hS, rfl⟩
  | put s w =>
    obtain ⟨a, xs, rfl, hS, hD⟩ := Dp.tup_inv (by unfold rowD at h; exact h)
    cases hD with | cons h1 _ => cases h1; exact ⟨a, _, rfl, hS, rfl⟩
  | give s =>
    obtain ⟨a, xs, rfl, hS, hD⟩ := Dp.tup_inv (by unfold rowD at h; exact h)
    cases hD with | cons h1 _ => cases h1; exact ⟨a, _, rfl, hS, rfl⟩
  | say s =>
    obtain ⟨a, xs, rfl, hS, hD⟩ := Dp.tup_inv (by unfold rowD at h; exact h)
    cases hD with | cons h1 _ => cases h1; exact ⟨a, _, rfl, hS, rfl⟩
  | wr c s =>
    obtain ⟨a, xs, rfl, hS, hD⟩ := Dp.tup_inv (by unfold rowD at h; exact h)
    cases hD with | cons h1 _ => cases h1; exact ⟨a, _, rfl, hS, rfl⟩
  | ite s w y n =>
    obtain ⟨a, xs, rfl, hS, hD⟩ := Dp.tup_inv (by unfold rowD at h; exact h)
    cases hD with | cons h1 _ => cases h1; exact ⟨a, _, rfl, hS, rfl⟩
theorem DpAll.inv2 {xs : List V} {d1 d2 : PyData} (h : DpAll K H xs [d1, d2]) : ∃ v1 v2, xs = [v1, v2] ∧ Dp K H v1 d1 ∧ Dp K H v2 d2 := by
  cases h with | cons a r => cases r with | cons b r => cases r; exact ⟨_, _, rfl, a, b⟩
theorem DpAll.inv3 {xs : List V} {d1 d2 d3 : PyData} (h : DpAll K H xs [d1, d2, d3]) : ∃ v1 v2 v3, xs = [v1, v2, v3] ∧ Dp K H v1 d1 ∧ Dp K H v2 d2 ∧ Dp K H v3 d3 := by
  cases h with | cons a r => obtain ⟨v2, v3, rfl, h2, h3⟩ := DpAll.inv2 r; exact ⟨_, _, _, rfl, a, h2, h3⟩
theorem DpAll.inv5 {xs : List V} {d1 d2 d3 d4 d5 : PyData} (h : DpAll K H xs [d1, d2, d3, d4, d5]) :
    ∃ v1 v2 v3 v4 v5, xs = [v1, v2, v3, v4, v5] ∧ Dp K H v1 d1 ∧ Dp K H v2 d2 ∧ Dp K H v3 d3 ∧ Dp K H v4 d4 ∧ Dp K H v5 d5 := by
  cases h with | cons a r => cases r with | cons b r => obtain ⟨v3, v4, v5, rfl, h3, h4, h5⟩ := DpAll.inv3 r; exact ⟨_, _, _, _, _, rfl, a, b, h3, h4, h5⟩
theorem rd_at {pk : Bool} {c s : Str} (h : Dp K H v (rowD (.rd pk c s))) : ∃ a, v = .ref a ∧ SqT K H a [.str (if pk then "peek" else "read"), .str c, .str s] := by
  obtain ⟨a, xs, rfl, hS, hD⟩ := Dp.tup_inv (by unfold rowD at h; exact h)
  obtain ⟨v1, v2, v3, rfl, h1, h2, h3⟩ := DpAll.inv3 hD
  cases h1; cases h2; cases h3
  exact ⟨a, rfl, hS⟩
theorem put_at {s c : Str} (h : Dp K H v (rowD (.put s c))) : ∃ a, v = .ref a ∧ SqT K H a [.str "put", .str s, .str c] := by
  obtain ⟨a, xs, rfl, hS, hD⟩ := Dp.tup_inv (by unfold rowD at h; exact h)
  obtain ⟨v1, v2, v3, rfl, h1, h2, h3⟩ := DpAll.inv3 hD
  cases h1; cases h2; cases h3
  exact ⟨a, rfl, hS⟩
theorem wr_at {s c : Str} (h : Dp K H v (rowD (.wr c s))) : ∃ a, v = .ref a ∧ SqT K H a [.str "write", .str c, .str s] := by
  obtain ⟨a, xs, rfl, hS, hD⟩ := Dp.tup_inv (by unfold rowD at h; exact h)
  obtain ⟨v1, v2, v3, rfl, h1, h2, h3⟩ := DpAll.inv3 hD
  cases h1; cases h2; cases h3
  exact ⟨a, rfl, hS⟩
theorem give_at {s : Str} (h : Dp K H v (rowD (.give s))) : ∃ a, v = .ref a ∧ SqT K H a [.str "give", .str s] := by
  obtain ⟨a, xs, rfl, hS, hD⟩ := Dp.tup_inv (by unfold rowD at h; exact h)
  obtain ⟨v1, v2, rfl, h1, h2⟩ := DpAll.inv2 hD
  cases h1; cases h2
  exact ⟨a, rfl, hS⟩
theorem say_at {s : Str} (h : Dp K H v (rowD (.say s))) : ∃ a, v = .ref a ∧ SqT K H a [.str "say", .str s] := by
  obtain ⟨a, xs, rfl, hS, hD⟩ := Dp.tup_inv (by unfold rowD at h; exact h)
  obtain ⟨v1, v2, rfl, h1, h2⟩ := DpAll.inv2 hD
  cases h1; cases h2
  exact ⟨a, rfl, hS⟩
theorem ite_at {s c : Str} {y n : List Row} (h : Dp K H v (rowD (.ite s c y n))) : ∃ a vy vn, v = .ref a ∧ SqT K H a [.str "if", .str s, .str c, vy, vn] ∧
    Dp K H vy (.tuple (rowsD y)) ∧ Dp K H vn (.tuple (rowsD n)) := by
  obtain ⟨a, xs, rfl, hS, hD⟩ := Dp.tup_inv (by unfold rowD at h; exact h)
  obtain ⟨v1, v2, v3, v4, v5, rfl, h1, h2, h3, h4, h5⟩ := DpAll.inv5 hD
  cases h1; cases h2; cases h3
  exact ⟨a, _, _, rfl, hS, h4, h5⟩
/-- the rows' items -/
theorem rows_at {rs : List Row} (h : Dp K H v (.tuple (rowsD rs))) : ∃ (a : Addr) (xs : List V), v = .ref a ∧ SqT K H a xs ∧ xs.length = rs.length ∧
    ∀ (i : Nat) (x : V), xs[i]? = some x → ∃ r, rs[i]? = some r ∧ Dp K H x (rowD r) := by
  obtain ⟨a, xs, rfl, hS, hD⟩ := Dp.tup_inv h
  have hl := DpAll.length hD
  rw [rowsD_length] at hl
  refine ⟨a, xs, rfl, hS, hl, fun i x hx => ?_⟩
  have hi : i < rs.length := by rw [← hl]; exact (List.getElem?_eq_some_iff.mp hx).1
  obtain ⟨d, h1, h2⟩ := DpAll.get hD hx
  have e := rowsD_get (List.getElem?_eq_getElem hi)
  rw [h1] at e
  exact ⟨_, List.getElem?_eq_getElem hi, by rw [← Option.some.inj e]; exact h2⟩
end
theorem take_more {α : Type} {l : List α} {i : Nat} {x : α} (h : l[i]? = some x) : l.take (i + 1) = l.take i ++ [x] := by
  have hi := (List.getElem?_eq_some_iff.mp h).1
  rw [List.take_succ_eq_append_getElem hi, (List.getElem?_eq_some_iff.mp h).2]
theorem cnts_take {rs : List Row} {i : Nat} {r : Row} (h : rs[i]? = some r) : cnts (rs.take (i + 1)) = cnts (rs.take i) + cnt r := by
  rw [take_more h, cnts_append]
  simp [cnts]
theorem cnt_pos : ∀ r, 1 ≤ cnt r
  | .ite _ _ y n => by unfold cnt; omega
  | .rd .. => by unfold cnt; exact Nat.le_refl _
  | .put .. => by unfold cnt; exact Nat.le_refl _
  | .give .. => by unfold cnt; exact Nat.le_refl _
  | .say .. => by unfold cnt; exact Nat.le_refl _
  | .wr .. => by unfold cnt; exact Nat.le_refl _
theorem cnt_flat : ∀ {r}, isIte r = false → cnt r = 1
  | .ite .., h => by cases h
  | .rd .., _ => rfl
  | .put .., _ => rfl
  | .give .., _ => rfl
  | .say .., _ => rfl
  | .wr .., _ => rfl
end Td
/-! Data of tuples, texts, numbers alone. -/
namespace Td
open PySem PySem.Spec PyProof.Rows L2
def TK (H H' : Hp) : Prop := (∀ b xs, H b = some (.tup xs) → H' b = some (.tup xs)) ∧ ∀ b o u, H b = some (.frz o u) → H' b = some (.frz o u)
theorem TK.refl (H : Hp) : TK H H := ⟨fun _ _ h => h, fun _ _ _ h => h⟩
theorem TK.trans {H H1 H2 : Hp} (a : TK H H1) (b : TK H1 H2) : TK H H2 := ⟨fun c xs h => b.1 c xs (a.1 c xs h), fun c o u h => b.2 c o u (a.2 c o u h)⟩
theorem TK.of_same {H H' : Hp} (s : Same H H') : TK H H' := ⟨fun c xs h => s c _ h, fun c o u h => s c _ h⟩
/-- what may change: no tuple, nothing locked -/
def Chg : Option HO → Prop
  | some (.tup _) => False
  | some (.frz _ _) => False
  | _ => True
theorem TK.of_keep {st : Addr} {H H' : Hp} (k : Keep st H H') (h : Chg (H st)) : TK H H' :=
  ⟨fun b xs e => k b _ (fun z => by rw [z] at e; rw [e] at h; exact h) e, fun b o u e => k b _ (fun z => by rw [z] at e; rw [e] at h; exact h) e⟩
theorem TK.upd {p : Addr} {H : Hp} {o : HO} (h : Chg (H p)) : TK H (L2.upd H p o) := TK.of_keep (st := p) Keep.upd h
mutual
inductive Tn (K : PySem.W.Frag) (H : Hp) : V → PyData → Prop
  | non : Tn K H .non .none
  | bl (b : Bool) : Tn K H (.bl b) (.bool b)
  | int (i : Int) : Tn K H (.int i) (.int i)
  | str (x : Str) : Tn K H (.str x) (.str x)
  | tup {a : Addr} {xs : List V} {ds : List PyData} : SqT K H a xs → TnAll K H xs ds → Tn K H (.ref a) (.tuple ds)
inductive TnAll (K : PySem.W.Frag) (H : Hp) : List V → List PyData → Prop
  | nil : TnAll K H [] []
  | cons {v : V} {vs : List V} {d : PyData} {ds : List PyData} : Tn K H v d → TnAll K H vs ds → TnAll K H (v :: vs) (d :: ds)
end
section
variable {K : PySem.W.Frag} {H H' : Hp} {st : Addr}
theorem SqT.tk {a : Addr} {xs : List V} (k : TK H H') (h : SqT K H a xs) : SqT K H' a xs := by
  rcases h with (h | ⟨o, h⟩) | h
  · exact .inl (.inl (k.1 _ _ h))
  · exact .inl (.inr ⟨o, k.2 _ _ _ h⟩)
  · exact .inr h
mutual
theorem Tn.keep (s : TK H H') : ∀ {v : V} {d : PyData}, Tn K H v d → Tn K H' v d
  | _, _, .non => .non
  | _, _, .bl b => .bl b
  | _, _, .int b => .int b
  | _, _, .str b => .str b
  | _, _, .tup q r => .tup (SqT.tk s q) (TnAll.keep s r)
theorem TnAll.keep (s : TK H H') : ∀ {v : List V} {d : List PyData}, TnAll K H v d → TnAll K H' v d
  | _, _, .nil => .nil
  | _, _, .cons a b => .cons (Tn.keep s a) (TnAll.keep s b)
end
mutual
theorem Tn.dp : ∀ {v : V} {d : PyData}, Tn K H v d → Dp K H v d
  | _, _, .non => .non
  | _, _, .bl b => .bl b
  | _, _, .int b => .int b
  | _, _, .str b => .str b
  | _, _, .tup q r => .tup q (TnAll.dp r)
theorem TnAll.dp : ∀ {v : List V} {d : List PyData}, TnAll K H v d → DpAll K H v d
  | _, _, .nil => .nil
  | _, _, .cons a b => .cons (Tn.dp a) (TnAll.dp b)
end
theorem TnAll.strs (zs : List Str) : TnAll K H (zs.map V.str) (zs.map PyData.str) := by
  induction zs with
  | nil => exact .nil
  | cons z r ih => exact .cons (.str z) ih
theorem TnAll.append : ∀ {vs ws : List V} {ds es : List PyData}, TnAll K H vs ds → TnAll K H ws es → TnAll K H (vs ++ ws) (ds ++ es)
  | _, _, _, _, .nil, h => h
  | _, _, _, _, .cons a r, h => .cons a (TnAll.append r h)
theorem TnAll.length : ∀ {vs : List V} {ds : List PyData}, TnAll K H vs ds → vs.length = ds.length
  | _, _, .nil => rfl
  | _, _, .cons _ r => by rw [List.length_cons, List.length_cons, TnAll.length r]
theorem TnAll.one {v : V} {d : PyData} (h : Tn K H v d) : TnAll K H [v] [d] := .cons h .nil
theorem Tn.tup_inv {v : V} {ds : List PyData} (h : Tn K H v (.tuple ds)) : ∃ (a : Addr) (xs : List V), v = .ref a ∧ SqT K H a xs ∧ TnAll K H xs ds := by
  cases h with
  | tup q r => exact ⟨_, _, rfl, q, r⟩
theorem TnAll.get : ∀ {vs : List V} {ds : List PyData} {i : Nat} {v : V}, TnAll K H vs ds → vs[i]? = some v → ∃ d, ds[i]? = some d ∧ Tn K H v d
  | _, _, _, _, .nil, h => by simp at h
  | _, _, 0, _, .cons a _, h => by simp at h; subst h; exact ⟨_, rfl, a⟩
  | _, _, i + 1, v, .cons _ r, h => by
    obtain ⟨d, h1, h2⟩ := TnAll.get (i := i) (v := v) r (by simpa using h)
    exact ⟨d, by simpa using h1, h2⟩
theorem TnAll.strs_inv : ∀ {vs : List V} {zs : List Str}, TnAll K H vs (zs.map PyData.str) → vs = zs.map V.str
  | vs, [], h => by cases h; rfl
  | vs, z :: zs, h => by
    cases h with
    | cons a r => cases a; rw [TnAll.strs_inv r]; rfl
/-- a new tuple -/
theorem Tn.new {p : Addr} {xs : List V} {ds : List PyData} (h : TnAll K H xs ds) (hp : H p = none) : Tn K (upd H p (.tup xs)) (.ref p) (.tuple ds) :=
  .tup (SqT.of upd_same) (TnAll.keep (TK.of_same (Same.new hp _)) h)
end
/-! ### an if whose second way is shown once -/
def tIfC (c : TT) (t u : TS) : TS := fun D σ H => ∃ Mid : Hp → Prop, (c σ H fun b H1 => if b = true then t D σ H1 else Mid H1) ∧ ∀ H1, Mid H1 → u D σ H1
theorem ps_ifC {X : Cx} {c : Expr} {a b : List Stmt} {tc : TT} {t u : TS} {pos : Pos} (hc : PT X c tc) (ha : PSs X a t) (hb : PSs X b u) : PS X (.If c a b pos) (tIfC tc t u) := by
  refine ⟨fun pins s σ H D I h => ?_⟩
  obtain ⟨Mid, h, hu⟩ := h
  refine wpAny_If (thn (hc.run pins s σ H _ I h) fun d s1 ⟨H1, I1, q1⟩ => ?_)
  cases d with
  | true => exact ha.run pins s1 σ H1 D I1 q1
  | false => exact hb.run pins s1 σ H1 D I1 (hu H1 q1)
end Td
/-! The parts of a program. -/
namespace Td
open PySem PySem.Spec PyProof.Rows L2
/-- a list of different names -/
structure Names (ns : List Str) : Prop where
  good : ∀ z ∈ ns, isNm z = true
  nd : ns.Nodup
structure PP where
  words : List Str
  sources : List Str
  derived : List (Str × List Row)
  effects : List (Str × List Row)
def pairD (p : Str × List Row) : PyData := .tuple [.str p.1, .tuple (rowsD p.2)]
def strsD (zs : List Str) : PyData := .tuple (zs.map PyData.str)
def pairsD (ps : List (Str × List Row)) : PyData := .tuple (ps.map pairD)
def PP.data (p : PP) : PyData := .tuple [strsD p.words, strsD p.sources, pairsD p.derived, pairsD p.effects]
def PP.names (p : PP) : List Str := p.sources ++ p.derived.map (·.1) ++ p.effects.map (·.1)
def PP.cells (p : PP) : List Str := p.sources ++ p.derived.map (·.1)
/-- not too many rows; the last of them may be a give or a say beyond the room -/
def Lim (eff : Bool) (most : Nat) (rs : List Row) : Prop := cnts rs ≤ most ∧ ∃ rs0 t, rs = rs0 ++ t ∧ cnts rs0 + 1 ≤ most ∧ (t = [] ∨ ∃ s, t = [if eff then Row.say s else Row.give s])
/-- derived bodies are right, each behind the cells ahead of it -/
def okDer (words sources : List Str) (most : Nat) : List Str → List (Str × List Row) → Prop
  | _, [] => True
  | rd, p :: r => okRs ⟨false, words, sources, rd⟩ 1 p.2 ∧ Lim false most p.2 ∧ okDer words sources most (rd ++ [p.1]) r
def okEff (words sources rd : List Str) (most : Nat) : List (Str × List Row) → Prop
  | [] => True
  | p :: r => okRs ⟨true, words, sources, rd⟩ 1 p.2 ∧ Lim true most p.2 ∧ okEff words sources rd most r
structure PP.Ok (p : PP) (most : Nat) : Prop where
  w2 : 2 ≤ p.words.length
  w4 : p.words.length ≤ 4
  s1 : 1 ≤ p.sources.length
  s4 : p.sources.length ≤ 4
  d6 : p.derived.length ≤ 6
  e4 : p.effects.length ≤ 4
  wn : Names p.words
  nn : Names p.names
  der : okDer p.words p.sources most p.sources p.derived
  eff : okEff p.words p.sources p.cells most p.effects
theorem okDer_snoc {words sources : List Str} {most : Nat} : ∀ {ps : List (Str × List Row)} {rd : List Str} {p : Str × List Row}, okDer words sources most rd ps →
    okRs ⟨false, words, sources, rd ++ ps.map (·.1)⟩ 1 p.2 → Lim false most p.2 → okDer words sources most rd (ps ++ [p])
  | [], rd, p, _, h1, h2 => by
    show okDer words sources most rd [p]
    unfold okDer
    exact ⟨by simpa using h1, h2, by unfold okDer; trivial⟩
  | q :: ps, rd, p, h, h1, h2 => by
    show okDer words sources most rd (q :: (ps ++ [p]))
    unfold okDer at h ⊢
    refine ⟨h.1, h.2.1, okDer_snoc h.2.2 ?_ h2⟩
    simpa using h1
theorem okEff_snoc {words sources rd : List Str} {most : Nat} : ∀ {ps : List (Str × List Row)} {p : Str × List Row}, okEff words sources rd most ps →
    okRs ⟨true, words, sources, rd⟩ 1 p.2 → Lim true most p.2 → okEff words sources rd most (ps ++ [p])
  | [], p, _, h1, h2 => by
    show okEff words sources rd most [p]
    unfold okEff
    exact ⟨h1, h2, by unfold okEff; trivial⟩
  | q :: ps, p, h, h1, h2 => by
    show okEff words sources rd most (q :: (ps ++ [p]))
    unfold okEff at h ⊢
    exact ⟨h.1, h.2.1, okEff_snoc h.2.2 h1 h2⟩
theorem Names.sub {ns ms : List Str} (h : Names ns) (s : ms.Sublist ns) : Names ms := ⟨fun z hz => h.good z (s.subset hz), h.nd.sublist s⟩
/-- the keys of the shape -/
def shp (k c s sl w : V) : List (Key × V) := [(.inr "kind", k), (.inr "cells", c), (.inr "sources", s), (.inr "slots", sl), (.inr "words", w)]
def shp7 (k c s sl w p r : V) : List (Key × V) := [(.inr "kind", k), (.inr "cells", c), (.inr "sources", s), (.inr "slots", sl), (.inr "words", w), (.inr "peeks", p), (.inr "writes", r)]
def shp6 (k c s sl w p : V) : List (Key × V) := [(.inr "kind", k), (.inr "cells", c), (.inr "sources", s), (.inr "slots", sl), (.inr "words", w), (.inr "peeks", p)]
section
variable (k c s sl w p r k' c' p' r' : V)
theorem shp_merge : mergeK [] (shp k c s sl w) = shp k c s sl w := by kernel_rfl
theorem shp_peeks : putK (shp k c s sl w) (.inr "peeks") p = shp6 k c s sl w p := by kernel_rfl
theorem shp_writes : putK (shp6 k c s sl w p) (.inr "writes") r = shp7 k c s sl w p r := by kernel_rfl
theorem shp7_cells : putK (shp7 k c s sl w p r) (.inr "cells") c' = shp7 k c' s sl w p r := by kernel_rfl
theorem shp7_kind : putK (shp7 k c s sl w p r) (.inr "kind") k' = shp7 k' c s sl w p r := by kernel_rfl
theorem shp7_peeks : putK (shp7 k c s sl w p r) (.inr "peeks") p' = shp7 k c s sl w p' r := by kernel_rfl
theorem shp7_writes : putK (shp7 k c s sl w p r) (.inr "writes") r' = shp7 k c s sl w p r' := by kernel_rfl
theorem get_words : valV (shp7 k c s sl w p r) (.inr "words") = some w := by kernel_rfl
theorem get_slots : valV (shp7 k c s sl w p r) (.inr "slots") = some sl := by kernel_rfl
theorem get_cells : valV (shp7 k c s sl w p r) (.inr "cells") = some c := by kernel_rfl
theorem get_sources : valV (shp7 k c s sl w p r) (.inr "sources") = some s := by kernel_rfl
theorem get_kind : valV (shp7 k c s sl w p r) (.inr "kind") = some k := by kernel_rfl
theorem get_peeks : valV (shp7 k c s sl w p r) (.inr "peeks") = some p := by kernel_rfl
theorem get_writes : valV (shp7 k c s sl w p r) (.inr "writes") = some r := by kernel_rfl
end
theorem inV_strs (z : Str) (ws : List Str) : inV (.str z) (ws.map V.str) = decide (z ∈ ws) := by
  induction ws with
  | nil => rfl
  | cons y r ih =>
    show (eqV (.str y) (.str z) || inV (.str z) (r.map V.str)) = _
    rw [ih]
    have e : eqV (.str y) (.str z) = decide (z = y) := by
      show (_ : Bool) = _
      by_cases h : z = y
      · subst h; simp [eqV]
      · simp [eqV, h]
        intro h'; exact h h'.symm
    rw [e]
    simp
theorem flat_strs (ws : List Str) : (ws.map V.str).all flatV = true := by
  rw [List.all_eq_true]; intro y hy; obtain ⟨u, _, rfl⟩ := List.mem_map.mp hy; rfl
theorem cut_from1 (xs : List V) : cutV xs (some 1) none = xs.drop 1 := by
  unfold cutV
  rw [HT.sIx_none, show HT.sIx xs.length 0 (some 1) = min 1 xs.length from HT.sIx_nat _ _ 1]
  rcases xs with _ | ⟨x, r⟩
  · rfl
  · show ((x :: r).drop (min 1 (r.length + 1))).take ((r.length + 1) - min 1 (r.length + 1)) = _
    rw [show min 1 (r.length + 1) = 1 by omega]
    simp
theorem cut_to (xs : List V) (k : Nat) (h : k ≤ xs.length) : cutV xs none (some (k : Int)) = xs.take k := by
  unfold cutV
  rw [HT.sIx_none, HT.sIx_nat, List.drop_zero, Nat.sub_zero, Nat.min_eq_left h]
theorem not_whole1 {xs : List V} (h : xs ≠ []) (hi : Option Int) : ¬ (HT.sIx xs.length 0 (some 1) = 0 ∧ HT.sIx xs.length xs.length hi = xs.length) := by
  rintro ⟨e, _⟩
  rw [show HT.sIx xs.length 0 (some 1) = min 1 xs.length from HT.sIx_nat _ _ 1] at e
  have := List.length_pos_iff.mpr h
  omega
/-- the words with another one at the end -/
theorem Names.turn {ws : List Str} {z : Str} (h : Names ws) (hz : isNm z = true) (hn : z ∉ ws) : Names (ws.drop 1 ++ [z]) := by
  refine ⟨fun y hy => ?_, ?_⟩
  · rcases List.mem_append.mp hy with q | q
    · exact h.good y (List.mem_of_mem_drop q)
    · rw [List.mem_singleton.mp q]; exact hz
  · refine List.nodup_append.mpr ⟨h.nd.sublist (List.drop_sublist 1 ws), by simp, fun a ha b hb e => ?_⟩
    have : b = z := by simpa using hb
    subst this
    subst e
    exact hn (List.mem_of_mem_drop ha)
end Td
/-! Loops over texts and enumerated tuples; a call of one of several defs. -/
namespace Td
open PySem PySem.Spec PyProof.Rows L2
theorem tYes_of {σ : L2.St} {H : Hp} {A B : Hp → Prop} (h : A H) : tYes σ H (fun b H3 => if b = true then A H3 else B H3) := by
  show (if true = true then A H else B H)
  exact iteT h
theorem lc_str {z : Str} {g : TG} {tt : TT} {te : TE} {vs : List Nat} {σ : L2.St} {H1 : Hp} {D : Addr} {Qd : Hp → Prop} (Pv : Nat → Hp → Prop) (h0 : Pv 0 (upd H1 D (.lst [])))
    (hs : ∀ (i c : Nat) (H : Hp), z.cps[i]? = some c → Pv i H → g (.str ⟨#[c]⟩) (wipe σ vs) H fun σ2 H2 => wipe σ2 vs = wipe σ vs ∧ tt σ2 H2 fun b H3 =>
      if b = true then te σ2 H3 fun y H4 => ∃ acc, H4 D = some (.lst acc) ∧ acc.length < sizeLine ∧ Pv (i + 1) (upd H4 D (.lst (acc ++ [y]))) else Pv (i + 1) H3) (hd : ∀ H, Pv z.cps.size H → Qd H) :
    ∃ W : Nat → Nat → Hp → Prop, (∃ m, W 0 m (upd H1 D (.lst []))) ∧ ∀ i m H, W i m H →
      ((Its z).stop i H ∧ Qd H) ∨ ((Its z).go i H ∧ ∃ Nx : Hp → Prop, (∀ H', Nx H' → ∃ m', m' < m ∧ W (i + 1) m' H') ∧ ∀ x H', (Its z).yld i H x H' → g x (wipe σ vs) H' fun σ2 H2 => wipe σ2 vs = wipe σ vs ∧ tt σ2 H2 fun b H3 =>
        if b = true then te σ2 H3 fun y H4 => ∃ acc, H4 D = some (.lst acc) ∧ acc.length < sizeLine ∧ Nx (upd H4 D (.lst (acc ++ [y]))) else Nx H3) := by
  refine ⟨fun i m H => m = z.cps.size - i ∧ i ≤ z.cps.size ∧ Pv i H, ⟨z.cps.size, by simp, Nat.zero_le _, h0⟩, ?_⟩
  rintro i m H ⟨rfl, hi, p⟩
  by_cases hlt : i < z.cps.size
  · refine .inr ⟨hlt, Pv (i + 1), fun H' p' => ⟨z.cps.size - (i + 1), by omega, rfl, hlt, p'⟩, fun x H' y => ?_⟩
    obtain ⟨e, c, hc, ex⟩ := y
    subst e
    subst ex
    exact hs i c _ hc p
  · have e : i = z.cps.size := by omega
    subst e
    exact .inl ⟨Nat.le_refl _, hd H p⟩
theorem for_enumT {K : PySem.W.Frag} {a : Addr} {xs : List V} {g : TG} {tb : TS} {D : Ends} {σ : L2.St} {H : Hp} (Pv : Nat → L2.St → Hp → Prop) (h0 : Pv 0 σ H) (hl : ∀ i σ H, i ≤ xs.length → Pv i σ H → SqT K H a xs)
    (hs : ∀ (i : Nat) (x : V) (σ : L2.St) (H : Hp) (T : Addr), xs[i]? = some x → Pv i σ H → H T = none → g (.ref T) σ (upd H T (.tup [.int (i : Nat), x])) fun σ2 H2 => tb { D with nx := Pv (i + 1), ct := Pv (i + 1), bk := D.nx } σ2 H2)
    (hd : ∀ σ H, Pv xs.length σ H → D.nx σ H) :
    ∃ W : Nat → Nat → L2.St → Hp → Prop, (∃ m, W 0 m σ H) ∧ ∀ i m σ H, W i m σ H →
      ((IteT K a).stop i H ∧ D.nx σ H) ∨ ((IteT K a).go i H ∧ ∃ N : L2.St → Hp → Prop, (∀ σ' H', N σ' H' → ∃ m', m' < m ∧ W (i + 1) m' σ' H') ∧
        ∀ x H', (IteT K a).yld i H x H' → g x σ H' fun σ2 H2 => tb { D with nx := N, ct := N, bk := D.nx } σ2 H2) := by
  refine ⟨fun i m σ H => m = xs.length - i ∧ i ≤ xs.length ∧ Pv i σ H, ⟨xs.length, by simp, Nat.zero_le _, h0⟩, ?_⟩
  rintro i m σ H ⟨rfl, hi, p⟩
  have q := hl i σ H hi p
  by_cases hlt : i < xs.length
  · refine .inr ⟨⟨xs, xs[i], q, by simp [hlt]⟩, Pv (i + 1), fun σ' H' p' => ⟨xs.length - (i + 1), by omega, rfl, hlt, p'⟩, fun x H' y => ?_⟩
    obtain ⟨T, u, ex, hT, eH, hu⟩ := y
    subst ex
    subst eH
    exact hs i u σ H T (hu xs q) p hT
  · have e : i = xs.length := by omega
    subst e
    exact .inl ⟨⟨xs, q, rfl⟩, hd σ H p⟩
/-- a call of a local name that holds one of several defs -/
def tCallR (i : Nat) (S : Addr → Sp → Prop) (t : TA) : TE := fun σ H Q => ∃ f sp, σ[i]? = some (some (.ref f)) ∧ S f sp ∧ t σ H fun vs H1 => sp vs H1 Q (fun _ _ _ => False)
section
variable {X : Cx} {k i : Nat} {x : Str} {p pos : Pos} {e : Expr} {es : List Expr} {t : TA}
theorem pe_callR {S : Addr → Sp → Prop} (A : ∀ f sp, S f sp → Held X.prog X.w X.K X.mg X.base k f sp) (hr : Room k X.A) (hN : X.N[i]? = some x) (hv : Vis X.env.scope x) (ha : PA X (e :: es) t)
    (hdb : (x == ("__debug__" : Str)) = false := by decide) (hcd : (x == ("__classdict__" : Str)) = false := by decide)
    (he : starEach (e :: es) X.env = (false, eval e X.env) :: starEach es X.env := by rfl) (hpl : (backTo pos (starEach es X.env)).any (·.1) = false := by rfl) :
    PE X (.Call (.Name x p) (e :: es) [] pos) (tCallR i S t) := by
  refine ⟨fun pins s σ H Q I h => ?_⟩
  obtain ⟨f, sp, h1, h2, h3⟩ := h
  exact (pe_callA (S := fun g => if g = f then some sp else none) (fun g sp' h => by
    split at h
    · rename_i e1
      cases h
      rw [e1]
      exact A f sp h2
    · cases h) hr hN hv ha hdb hcd he hpl).run pins s σ H Q I ⟨f, sp, h1, if_pos rfl, h3⟩
end
end Td
/-! A method whose first statement is super().__init__() with no more arguments. -/
namespace Td
open PySem PySem.Spec PyProof.Rows L2
/-- what is written of such a method: it stands at f in the class at C, its class cell at cc; g is the other class's __init__ -/
structure Sup (P : Program) (K : PySem.W.Frag) (qual : Str) (st : Stmt) (f C g : Addr) (fd : FuncData) : Prop where
  ex : ∃ (oc : Value) (od : Option Addr) (sl : Array (Option Value)) (kV doc pm : Value) (an : Option Addr) (ct : Value) (cc cda : Addr) (ccl : Value) (cdd : Option Addr) (vs : Array Value) (ccs : Array (Option Value)) (file : Str) (tf : Tok) (cl : Value) (cld : Option Addr) (csl : Array (Option Value)),
    fd = PySem.W.fnX "__init__" qual (defArgs st) (defBody st) (defScope st) [("__class__", cc)] .none kV doc pm an (.ref cda) ct ∧ K.lookup f = some ⟨oc, od, .func fd, sl⟩ ∧ PySem.W.codeIn K (.ref cda) qual = true ∧
    K.lookup cda = some ⟨ccl, cdd, .fields vs, ccs⟩ ∧ vs[2]? = some (.str file tf) ∧ ((P.main.file : Str) == file) = true ∧ K.lookup cc = some ⟨cl, cld, .cell (some (.ref C)), csl⟩
  cls : ∃ cd, PySem.W.clsIn K C = some cd
  mro : PySem.W.mroIn K C (.ref C) = some true
  up : PySem.W.ks_superIn K C C "__init__" = some (some (.ref g))
  ty : PySem.W.typeIn K (.ref g) = some (.type "function")
  fn : PySem.W.fnIn K g = true
  opq : PySem.W.nsIn K cStatics "thirdparty.any" = some none
  glob : PySem.W.nsIn K mainGlobals "super" = some none
  kp : PySem.W.keepIn K (.ref f) = true
def supNF (qual : Str) (st : Stmt) (cc cda : Addr) : NdefX.NF := ⟨"__init__", qual, defArgs st, defBody st, defScope st, [("__class__", cc)], cda⟩
theorem sup_tree {o : Expr} {m : Str} {ap cp : Pos} {env : PySem.Env} (hl : (ap.endLine == cp.line) = true) : eval (.Call (.Attribute o m ap) [] [] cp) env = (do
      let ov ← attributeBase o m env (eval o env)
      standAt ap.atName
      let (f, first) ← holding [ov] (getMethod ov m (plainOf o env))
      callWith cp f first (backTo cp (starEach [] env)) []) := by
  rw [arm_eval_Call]
  refine bind_congr fun ov => bind_congr fun _ => ?_
  exact mcall_line rfl hl
section
variable {P : Program} {w : World} {K : PySem.W.Frag} {mg : Str → Option Value} {base : Heap}
theorem Sup.binds {qual : Str} {st : Stmt} {f C g : Addr} {fd : FuncData} {ps : List Str} (F : Sup P K qual st f C g fd)
    (h : ∀ (kV doc pm : Value) (an : Option Addr) (cdv ct : Value) (cc : Addr) (us : List Value), us.length = ps.length → bindArgs (PySem.W.fnX "__init__" qual (defArgs st) (defBody st) (defScope st) [("__class__", cc)] .none kV doc pm an cdv ct) ⟨us, []⟩ = pure (ps.zip us)) : Binds K fd ps [] := by
  obtain ⟨oc, od, sl, kV, doc, pm, an, ct, cc, cda, ccl, cdd, vs, ccs, file, tf, cl, cld, csl, rfl, _⟩ := F.ex
  exact .all (h kV doc pm an (.ref cda) ct cc)
theorem fn_super {qual : Str} {st : Stmt} {f C g : Addr} {fd gd : FuncData} {N ps : List Str} {k : Nat} {sp spG : Sp} {p0 p1 ap cp ep : Pos} {rest : List Stmt} {ar : Arg} {us0 : List Str}
    (F : Sup P K qual st f C g fd) (hst : defBody st = .Expr (.Call (.Attribute (.Call (.Name "super" p0) [] [] p1) "__init__" ap) [] [] cp) ep :: rest)
    (S : NdefX.NScope N ps ["__class__"] (defScope st)) (hps : ps = ar.arg :: us0) (har : ((defArgs st).posonlyargs ++ (defArgs st).args).head? = some ar)
    (hline : (ap.endLine == cp.line) = true) (hks : (defScope st).names.lookup ("super" : Str) = some .globalImplicit) (htop : (P.main.scope.names.lookup ("super" : Str)).isSome = false)
    (G : FnOk P w K mg base CX0 k g gd [ar.arg] spG) (bG : Binds K gd [ar.arg] [])
    (len : ∀ vs H Q E, sp vs H Q E → vs.length = ps.length)
    (hbody : ∀ (A : Around) (outer : List PySem.Env) (s : Shared) (H : Hp) (vs : List V) (Q : VK) (E : XK) (cc cda : Addr), Room k (A.deeper (NdefX.envF (supNF qual st cc cda) f s.heap.objs.size)) → sp vs H Q E →
      ∃ (x dx : Addr) (fs : List (Str × V)) (vs' : List V), vs = .ref x :: vs' ∧ H x = some (.ins C dx fs) ∧ spG [.ref x] H (fun v H' => v = .non ∧
        ∃ t, PSs (NdefX.ncx CX0 P w K mg base N (supNF qual st cc cda) f A outer s H E) rest t ∧ t { nx := fun _ H' => Q .non H', rt := Q } (NdefX.startF N vs [none]) H') E0) :
    FnOk P w K mg base CX0 (k + 1) f fd ps sp := by
  refine ⟨len, fun A outer s H args us vs Q E hr e0 hb r hsp => ?_⟩
  obtain ⟨oc, od, sl, kV, doc, pm, an, ct, cc, cda, ccl, cdd, cvs, ccs, file, tf, cl, cld, csl, rfl, lk, hcd, lcd, hcv, hfile, lcc⟩ := F.ex
  have hl := len _ _ _ _ hsp
  have KX : K.In s.heap := e0.mod.kin.keeps fun b o e => (e0.bs b o e).1
  have lim : s.heap.NoLimit := e0.mod.nolimit.keeps fun b o e => (e0.bs b o e).1
  refine ks_codeAny_call_defAt hr.depth (KX _ _ lk) rfl lim (PySem.W.codeRec_of KX hcd) rfl hb S.nocell (fun ⟨n, _⟩ hy => S.par n (List.of_mem_zip hy).1) (fun h₁ hns kp => ?_) S.co S.gen S.kind
  show PySem.wpAt _ (A.deeper (NdefX.envF (supNF qual st cc cda) f s.heap.objs.size)) (.func (defBody st) (NdefX.envF (supNF qual st cc cda) f s.heap.objs.size)) (execs (defBody st) (NdefX.envF (supNF qual st cc cda) f s.heap.objs.size)) _ _ _
  have cells : NdefX.CellsAt (supNF qual st cc cda).cl ["__class__"] [none] s.heap H := by
    have one : ∀ y c, List.lookup y [(("__class__" : Str), cc)] = some c → y = "__class__" ∧ c = cc := fun y c e => by
      by_cases z : y = ("__class__" : Str)
      · subst z
        simp [List.lookup] at e
        exact ⟨rfl, e.symm⟩
      · have q : (y == ("__class__" : Str)) = false := by simpa using z
        simp [List.lookup, q] at e
    refine ⟨rfl, fun y c e => ?_, fun x y c e1 e2 => (one x c e1).1.trans (one y c e2).1.symm, fun i y e => ?_⟩
    · obtain ⟨_, rfl⟩ := one y c e
      exact ⟨(e0.bs _ _ (e0.mod.kin _ _ lcc)).2, some (.ref C), _, KX _ _ lcc, rfl⟩
    · cases i with
      | zero =>
        have ey : y = "__class__" := (Option.some.inj e).symm
        subst ey
        exact ⟨cc, by simp [supNF, List.lookup], fun v z => by simp at z⟩
      | succ n => simp at e
  have I : Inv (NdefX.ncx CX0 P w K mg base N (supNF qual st cc cda) f A outer s H E) [] (NdefX.startF N vs [none]) H { s with heap := h₁, toks := s.toks + (ps.zip us).length } := NdefX.inv_startN S hr.hd e0 hl r cells hns kp
  obtain ⟨x, dx, fs, vs', rfl, hx, hG⟩ := hbody A outer s H vs Q E cc cda (hr.deeper _) hsp
  cases r with
  | cons ru rr =>
    rename_i u0 us1
    obtain rfl : u0 = Value.ref x := ru
    have K1 : K.In h₁ := I.kIn
    obtain ⟨cd, hcls⟩ := F.cls
    obtain ⟨oD, hD1, hD2⟩ : ∃ oD, h₁.get? C = some oD ∧ oD.data = .cls cd := by
      unfold PySem.W.clsIn at hcls
      split at hcls
      · rename_i c d cd' sl' ho
        cases hcls
        exact ⟨_, K1 _ _ ho, rfl⟩
      · cases hcls
    obtain ⟨mA, O, _⟩ := ins_get I.hok hx
    obtain ⟨od1, J, _⟩ := O.look
    have nx : (NdefX.envF (supNF qual st cc cda) f s.heap.objs.size).kindOf "super" = some .globalImplicit := hks
    have nc : (NdefX.envF (supNF qual st cc cda) f s.heap.objs.size).kindOf "__class__" = some .free := S.frk _ (by simp)
    have ns : (NdefX.envF (supNF qual st cc cda) f s.heap.objs.size).kindOf ar.arg = some .local := S.par _ (by rw [hps]; simp)
    obtain ⟨mb, hb1, hb2⟩ := e0.mod.blt
    rw [hst]
    refine ks_wpAt_execs_cons (ks_wpAt_Expr_any ?_ I.quiet)
    refine ks_wpAt_MethodCall ?_ (sup_tree hline)
    refine ks_wpAt_super_base nx nc rfl rfl (K1 _ _ lk) rfl har rfl (K1 _ _ lcd) rfl hcv hfile htop ?_
    refine PySem.W.ks_loadName_global S.kind nx (Calls.loadGlobal_builtin (by exact e0.mod.glob.keeps I.bk) (PySem.W.mg_none_of e0.mod.kin e0.mod.glob F.glob) (by exact hb1.keeps I.bk) ((hb2 "super" (by decide)).trans (by decide +kernel : bootBuiltins "super" = some (.type "super"))) ⟨rfl, ?_⟩)
    refine wpAny_loadName_free S.kind nc rfl ⟨_, K1 _ _ lcc, rfl⟩ ?_
    refine wpAny_loadName_local S.kind ns hns (v := .ref x) ?_ ?_
    · rw [hps, List.zip_cons_cons, List.reverse_cons, List.lookup_append]
      have hn : (us0.zip us1).reverse.lookup ar.arg = none := by
        have nd := S.nd.sublist (List.take_sublist (ps.length + 1) N)
        have pre := S.pre
        rw [show (["__class__"] : List Str).length = 1 from rfl] at pre
        rw [pre, hps, List.cons_append] at nd
        exact NdefX.look_none fun v hv => (List.nodup_cons.mp nd).1 (List.mem_append_left _ (List.of_mem_zip (List.mem_reverse.mp hv)).1)
      rw [hn]
      simp [List.lookup]
    refine ks_wpAny_isType_cls hD1 hD2 ⟨rfl, ?_⟩
    refine ks_wpAny_call_super hD1 hD2 J.at_ J.cls (fun c e => by cases e) (PySem.W.looks_mroIn K1 F.mro) (fun h' eso k' => ?_)
    have K2 : K.In h' := K1.keeps k'
    have hgf : ∃ of, h'.get? g = some of ∧ of.cls = .type "function" := by
      have ht' : (K.lookup g).map (·.cls) = some (.type "function") := F.ty
      cases z : K.lookup g with
      | none => rw [z] at ht'; cases ht'
      | some of => rw [z] at ht'; exact ⟨of, K2 _ _ z, Option.some.inj ht'⟩
    obtain ⟨of, hof, hofc⟩ := hgf
    have hup := F.up
    unfold PySem.W.ks_superIn at hup
    rw [hcls] at hup
    refine ks_wpAny_getMethod_super eso (PySem.W.looks_opaque K2 F.opq) (l₀ := cd.mro) ?_ rfl K2 hup hof hofc (PySem.W.ks_ne K1 J hcls) rfl ?_
    · exact fun A Q E s k q => wpAny_bind ((PySem.W.looks_clsIn K2 hcls) A _ E s k (wpAny_pure q))
    have k3 : ∀ b o, h₁.get? b = some o → (h'.push { cls := .type "method", data := .fields #[.ref g, .ref x] }).get? b = some o := fun b o e => Heap.get?_push_of_some _ (k' b o e)
    have J2 := I.kept (t' := s.toks + (ps.zip (Value.ref x :: us1)).length + 1) k3
    refine PySem.W.callWith_M0 (g := g) (self := .ref x) (K := K) ⟨Heap.get?_push_at rfl rfl, J2.kIn⟩ F.fn (wpAny_call (ks_codeAny_call_bound (Heap.get?_push_at rfl rfl) ?_))
    refine codeAny_mono (G.run _ _ _ H ⟨[.ref x], []⟩ [.ref x] [.ref x] _ E0 (hr.deeper _) J2.env0 (bG _ [.ref x] J2.kIn rfl) (.cons rfl .nil) hG) fun r s' hq => ?_
    cases r with
    | error e => exact hq.elim
    | ok fl =>
      cases fl with
      | next => exact False.elim hq
      | brk => exact False.elim hq
      | cont => exact False.elim hq
      | ret u =>
        obtain ⟨v, H', J3, rv, ev, t, ht, hq3⟩ := J2.after hq
        refine PySem.wpAt_of_wpAny ?_
        refine wpAny_mono (ht.run [] s' _ H' _ J3 hq3) (fun fl s2 hs => ?_) fun e s2 hs => hs
        have fin : ∀ {σ' : L2.St} {H' : Hp} {v : V} {u : Value}, Inv (NdefX.ncx CX0 P w K mg base N (supNF qual st cc cda) f A outer s H E) [] σ' H' s2 → RelV v u → Q v H' → CE outer P w H s Q u s2 :=
          fun {σ' H' v u} J rv q => ⟨v, H', J.os, J.bare, J.base, J.hok, rv, q⟩
        cases fl with
        | ret u =>
          obtain ⟨v, σ', H', J, rv, q⟩ := hs
          exact fin J rv q
        | next =>
          obtain ⟨σ', H', J, q⟩ := hs
          exact fin (v := V.non) (u := Value.none) J rfl q
        | brk =>
          obtain ⟨_, _, _, q⟩ := hs
          exact False.elim q
        | cont =>
          obtain ⟨_, _, _, q⟩ := hs
          exact False.elim q
end
end Td
/-! Own exceptions of one field; several clauses with a name each; a datum in a tuple. -/
namespace Td
open PySem PySem.Spec PyProof.Rows L2
/-! ### a datum in a tuple of data -/
def rInDT (K : PySem.W.Frag) (neg : Bool) : R2 := fun x y H Q => ∃ d ds, Dp K H x d ∧ Dp K H y (.tuple ds) ∧ SeqAt.shaped d = true ∧ SeqAt.shaped (.tuple ds) = true ∧ Q (.bl (if neg then !(ds.any fun z => PyData.eqv z d) else ds.any fun z => PyData.eqv z d)) H
section
variable {X : Cx}
theorem op_inDT (hu : X.A.units + 65 < cLine) : OpR X (compareOp .In) (rInDT X.K false) := by
  rintro pins s σ H x y v u Q I rx ry ⟨d, ds, h1, h2, e1, e2, q⟩
  obtain ⟨la, ra⟩ := Dp.reads I d x v h1 rx
  obtain ⟨lb, rb⟩ := Dp.reads I (.tuple ds) y u h2 ry
  exact SeqAt.in_tuple_reads rb ra (SeqAt.canLay_of_shaped e2) (SeqAt.canLay_of_shaped e1) (room_in_shaped e1 hu) ⟨.bl _, H, I, rfl, q⟩
end
theorem units65 {k : Nat} {A : Around} (r : Room k A) : A.units + 65 < cLine := by have := r.un; omega
/-! ### an own exception of one field -/
def spExc (K : PySem.W.Frag) (C : Addr) : Str → Sp := fun f vs H Q _ => ∃ (a : Addr) (y : V), vs = [.ref a, y] ∧ H a = some (exo a C none) ∧
  ∀ dx H', H dx = none → dx ≠ a → H' = upd (upd H dx (exd dx [(f, y)])) a (exo a C (some dx)) → Q .non H'
/-- what a raise wants of the way out -/
def Rz (C : Addr) (f : Str) (y : V) (H : Hp) (E : XK) : Prop := ∀ (d : Addr) (H' : Hp), Same H H' → H d = none → H' d = some (.xd [(f, y)]) → E (.ref C) (some d) H'
theorem Rz.later {C : Addr} {f : Str} {y : V} {H H1 : Hp} {E : XK} (r : Rz C f y H E) (s : Same H H1) : Rz C f y H1 E := fun d H' s' hd e => by
  refine r d H' (s.trans s') ?_ e
  cases z : H d with
  | none => rfl
  | some o => rw [s _ _ z] at hd; cases hd
theorem one_field {H : Hp} {a C dx : Addr} {f : Str} {y : V} (ha : H a = none) (hx : dx ≠ a) :
    upd (del (upd (upd (upd H a (exo a C none)) dx (exd dx [(f, y)])) a (exo a C (some dx))) a) dx (.xd [(f, y)]) = upd H dx (.xd [(f, y)]) := by
  funext b
  by_cases h1 : b = dx
  · rw [h1, upd_same, upd_same]
  · rw [upd_ne h1, upd_ne h1]
    by_cases h2 : b = a
    · rw [h2, del_same, ha]
    · rw [del_ne h2, upd_ne h2, upd_ne h1, upd_ne h2]
/-- the making of such an exception, with its argument at hand -/
theorem made_one {K : PySem.W.Frag} {C : Addr} {f : Str} {y : V} {H : Hp} {Q : XK} (q : Rz C f y H Q) : [y].length ≤ 1000 ∧ ∀ a, H a = none → spExc K C f (.ref a :: ([y] ++ [])) (upd H a (exo a C none))
    (fun v H2 => v = .non ∧ ∃ (d : Addr) (fs : List (Str × V)), H2 a = some (exo a C (some d)) ∧ H2 d = some (exd d fs) ∧ H d = none ∧ Q (.ref C) (some d) (upd (del H2 a) d (.xd fs))) (fun _ _ _ => False) := by
  refine ⟨by show 1 ≤ 1000; decide, fun a ha => ⟨a, y, rfl, upd_same, fun dx H' hdx hne e => ⟨rfl, dx, [(f, y)], ?_, ?_, ?_, ?_⟩⟩⟩
  · rw [e]; exact upd_same
  · rw [e, upd_ne hne]; exact upd_same
  · rw [upd_ne hne] at hdx; exact hdx
  · have hd : H dx = none := by rw [upd_ne hne] at hdx; exact hdx
    rw [e, one_field ha hne]
    exact q dx _ (Same.new hd _) hd upd_same
/-! ### try: .. except A as e: .. except B as e: .. -/
abbrev SuiteT : Type := Addr → Value → Option Addr → TS
/-- D, slot i emptied ahead of it -/
def emptied (i : Nat) (D : Ends) : Ends := { nx := fun τ G => D.nx (τ.set i none) G, rt := D.rt, bk := fun τ G => D.bk (τ.set i none) G, ct := fun τ G => D.ct (τ.set i none) G }
def wAsL (K : PySem.W.Frag) (Wout : WX) (D : Ends) : List (Value × Nat × SuiteT) → WX
  | [] => Wout
  | q :: r => fun cls d σ H => ∃ b, PySem.W.exmOne K cls q.1 = some b ∧ (b = true → ∀ a, H a = none → q.2.2 a cls d (emptied q.2.1 D) (σ.set q.2.1 (some (.ref a))) H) ∧ (b = false → wAsL K Wout D r cls d σ H)
inductive Clauses (X : Cx) : List ExceptHandler → List (Value × Nat × SuiteT) → Prop
  | none : Clauses X [] []
  | more {x n : Str} {c : Value} {i : Nat} {t : SuiteT} {st : Stmt} {sts : List Stmt} {p p' : Pos} {hs : List ExceptHandler} {l : List (Value × Nat × SuiteT)} (hi : X.N[i]? = some n) (hn : X.env.kindOf n = some .local) (hc : L2.Names X x c)
      (go : ∀ (a : Addr) (o : Obj) (cls : Value) (d : Option Addr) (pn : List (Addr × Obj)), Zc cls d o → (∃ vs, o.data = .fields vs) → PSs (X.suite a ((a, o) :: pn)) (st :: sts) (t a cls d)) (r : Clauses X hs l) :
      Clauses X (.ExceptHandler (some (.Name x p)) (some n) (st :: sts) p' :: hs) ((c, i, t) :: l)
section
variable {X : Cx}
theorem ps_try_asL {body : List Stmt} {h : ExceptHandler} {hs : List ExceptHandler} {l : List (Value × Nat × SuiteT)} {pos : Pos} {tb : WX → TS} {Wout : WX} (h1 : X.stack = X.env :: X.outer) (h2 : X.env.frame = some X.env.locals) (nd : X.N.Nodup) (tk : Takes X Wout)
    (hb : ∀ (W : WX) (pn : List (Addr × Obj)) (xe : Value → Shared → Prop), Takes (X.tr pn xe) W → PassesOwn (model X.prog X.w) X.A X.env xe → PSs (X.tr pn xe) body (tb W))
    (hh : Clauses X (h :: hs) l) : PS X (.Try body (h :: hs) [] [] pos) (fun D σ H => tb (wAsL X.K Wout D l) D σ H) := by
  constructor
  intro pins s σ H D I want
  have okX := I.ok
  have frX : X.A.frames = some (X.env :: X.outer) := okX.frames.trans (congrArg some h1)
  refine wpAny_Try_except (wpAny_mono ((hb (wAsL X.K Wout D l) (X.pn ++ pins) (fun e s₁ => wpAny (model X.prog X.w) X.A (noteFrame e X.env) (fun _ s₂ => wpAny (model X.prog X.w) X.A (setFlight e none)
    (fun _ s₃ => wpAny (model X.prog X.w) X.A (handleBy e X.env (h :: hs)) (SP X pins D) X.xe s₃) X.xe s₂) X.xe s₁) (fun u s1 got => ?_) PassesOwn.looking).run [] s σ H D (I.toTry _) want) (fun fl s1 fin => ?_) fun _ _ z => z)
  · obtain ⟨a, B, sI, pins', τ, G, cls, d, rfl, J0, nb, up, sky, na, os, ag, w⟩ := got
    have J := J0.ofTry okX
    rw [h1] at sky
    show wpAny (model X.prog X.w) X.A (noteFrame (.ref a) X.env) _ _ _
    refine Sky.land Zc.steady frX h2 sky fun hp fly up1 => ?_
    have JP : Inv X pins τ G { s1 with heap := hp } := J.landed nb fly.1 (up.trans up1) os ag
    obtain ⟨o, vs, ho, hz, hd⟩ := fly.there
    have off : a ∉ frs (X.env :: X.outer) := fun m => by
      obtain ⟨_, o', e', nf⟩ := fly.2.2.1.mem m
      rw [ho] at e'
      cases e'
      exact nf _ hd
    have offL : a ≠ X.env.locals := fun z => off (List.mem_filterMap.mpr ⟨X.env, List.mem_cons_self, by rw [h2, z]⟩)
    have offF : a ∉ X.fs := fun m => by
      obtain ⟨ev, he, q⟩ := List.mem_filterMap.mp m
      exact off (List.mem_filterMap.mpr ⟨ev, List.mem_cons_of_mem _ he, q⟩)
    have SP0 := JP.suite ho hd na offL offF
    suffices all : ∀ {hs' : List ExceptHandler} {l' : List (Value × Nat × SuiteT)}, Clauses X hs' l' → wAsL X.K Wout D l' cls d τ G → wpAny (model X.prog X.w) X.A (handleBy (.ref a) X.env hs') (SP X pins D) X.xe { s1 with heap := hp } from all hh w
    intro hs' l' cl
    induction cl with
    | none =>
      intro w0
      refine wpAny_handleBy_nil ?_
      obtain ⟨_, _, _, o1, vs1, T, _, _, ho1, _, hd1, hv1, _⟩ := id fly
      unfold PySem.passOn
      refine wpAny_bind (wpAny_field ho1 hd1 hv1 ?_)
      rw [if_neg (show ¬ ((Value.ref T == Value.none) = true) by simp)]
      have away : wpAny (model X.prog X.w) X.A (setFlight (.ref a) X.env.frame) (fun _ s4 => wpAny (model X.prog X.w) X.A (throw (.ref a) : Sem Flow) (SP X pins D) X.xe s4) X.xe { s1 with heap := hp } := by
        rw [h2]
        exact HandSPX.setFlight_upZ fly fun hq kq uq => wpAny_throw (tk _ _ ⟨a, B, sI, pins, τ, G, cls, d, rfl, J, nb, (up.trans up1).trans uq, .inr (.inr (by rw [h1]; exact kq)), na, os, ag, w0⟩)
      first
        | exact wpAny_bind (wpAny_pure (wpAny_bind away))
        | exact wpAny_bind away
    | @more x n c i t st sts p p' hs2 l2 hi hn hc go r ih =>
      intro w0
      obtain ⟨b, hm, yes, no⟩ := w0
      refine wpAny_handleBy_cons (codeAny_handlers_test ?_) (by intro q; cases q)
      have tyA : PySem.W.Looks (model X.prog X.w) hp (typeOf (.ref a)) cls := fun _ _ _ _ k q => wpAny_typeOf_ref (k _ _ ho) (by rw [hz.1]; exact q)
      have mt := PySem.W.exm_one (M := model X.prog X.w) JP.kIn tyA hm
      have name : ∀ {Q : Value → Shared → Prop} {E : Value → Shared → Prop}, Q c { s1 with heap := hp } → wpAny (model X.prog X.w) (X.A.mark (some (.ref a))) (eval (.Name x p) X.env) Q E { s1 with heap := hp } := fun q => by
        rcases hc with ⟨hg, hdb, hm1 | ⟨hm1, hv1, hn1⟩⟩
        · exact ld_glob (X := X.suite a ((a, o) :: (X.pn ++ pins))) SP0 hg hm1 q hdb
        · exact ld_blt (X := X.suite a ((a, o) :: (X.pn ++ pins))) SP0 hg hm1 hv1 q hn1 hdb
      refine name (mt.here ?_)
      cases b with
      | false => exact ih (no rfl)
      | true =>
        refine codeAny_handlers_suite_as (HandSPX.lands_againZ fly fun hq fq uq => ?_)
        have JQ : Inv X pins τ G { s1 with heap := hq } := J.landed nb fq.1 ((up.trans up1).trans uq) os ag
        obtain ⟨oq, vq, hoq, hzq, hdq⟩ := fq.there
        refine store_ok (X := X.suite a ((a, oq) :: (X.pn ++ pins))) (v := .ref a) (JQ.suite hoq hdq na offL offF) nd hi (.inl hn) rfl (fun s5 S5 => ?_) (.inr hn)
        refine wpAny_mono ((go a oq cls d (X.pn ++ pins) hzq ⟨_, hdq⟩).run [] s5 _ G _ S5 (yes rfl a na)) (fun fl s6 e6 => ?_) fun _ _ z => z.elim
        have gone : ∀ {τ6 : L2.St} {G6 : Hp} {Q : Shared → Prop}, Inv (X.suite a ((a, oq) :: (X.pn ++ pins))) [] τ6 G6 s6 → (∀ s7, Inv X pins (τ6.set i none) G6 s7 → Q s7) →
            wpAny (model X.prog X.w) X.A (do bindName X.env n .none; unbindBehindTheSuite X.env n p') (fun _ s7 => Q s7) X.xe s6 := fun S6 hq => gone_ok (S6.unsuite okX) nd hi hn hq
        cases fl with
        | next => exact let ⟨_, _, S6, q6⟩ := e6; gone S6 fun _ J7 => ⟨_, _, J7, q6⟩
        | brk => exact let ⟨_, _, S6, q6⟩ := e6; gone S6 fun _ J7 => ⟨_, _, J7, q6⟩
        | cont => exact let ⟨_, _, S6, q6⟩ := e6; gone S6 fun _ J7 => ⟨_, _, J7, q6⟩
        | ret u => exact let ⟨_, _, _, S6, r6, q6⟩ := e6; gone S6 fun _ J7 => ⟨_, _, _, J7, r6, q6⟩
  · cases fl with
    | next => exact let ⟨τ, G, J, q⟩ := fin; wpAny_execs_nil ⟨τ, G, J.ofTry okX, q⟩
    | brk => exact let ⟨τ, G, J, q⟩ := fin; ⟨τ, G, J.ofTry okX, q⟩
    | cont => exact let ⟨τ, G, J, q⟩ := fin; ⟨τ, G, J.ofTry okX, q⟩
    | ret u => exact let ⟨v, τ, G, J, r, q⟩ := fin; ⟨v, τ, G, J.ofTry okX, r, q⟩
end
end Td
/-! Own exceptions of two fields. -/
namespace Td
open PySem PySem.Spec PyProof.Rows L2
def spExc2 (K : PySem.W.Frag) (C : Addr) (f1 f2 : Str) : Sp := fun vs H Q _ => ∃ (a : Addr) (y1 y2 : V), vs = [.ref a, y1, y2] ∧ H a = some (exo a C none) ∧
  ∀ dx H', H dx = none → dx ≠ a → H' = upd (upd (upd H dx (exd dx [(f1, y1)])) a (exo a C (some dx))) dx (exd dx [(f2, y2), (f1, y1)]) → Q .non H'
theorem two_fields {H : Hp} {a C dx : Addr} {f1 f2 : Str} {y1 y2 : V} (ha : H a = none) (hx : dx ≠ a) :
    upd (del (upd (upd (upd (upd H a (exo a C none)) dx (exd dx [(f1, y1)])) a (exo a C (some dx))) dx (exd dx [(f2, y2), (f1, y1)])) a) dx (.xd [(f2, y2), (f1, y1)]) = upd H dx (.xd [(f2, y2), (f1, y1)]) := by
  funext b
  by_cases h1 : b = dx
  · rw [h1, upd_same, upd_same]
  · rw [upd_ne h1, upd_ne h1]
    by_cases h2 : b = a
    · rw [h2, del_same, ha]
    · rw [del_ne h2, upd_ne h1, upd_ne h2, upd_ne h1, upd_ne h2]
theorem made_two {K : PySem.W.Frag} {C : Addr} {f1 f2 : Str} {y1 y2 : V} {H : Hp} {Q : XK} (q : ∀ (d : Addr) (H' : Hp), Same H H' → H d = none → H' d = some (.xd [(f2, y2), (f1, y1)]) → Q (.ref C) (some d) H') :
    [y1, y2].length ≤ 1000 ∧ ∀ a, H a = none → spExc2 K C f1 f2 (.ref a :: ([y1, y2] ++ [])) (upd H a (exo a C none))
    (fun v H2 => v = .non ∧ ∃ (d : Addr) (fs : List (Str × V)), H2 a = some (exo a C (some d)) ∧ H2 d = some (exd d fs) ∧ H d = none ∧ Q (.ref C) (some d) (upd (del H2 a) d (.xd fs))) (fun _ _ _ => False) := by
  refine ⟨by show 2 ≤ 1000; decide, fun a ha => ⟨a, y1, y2, rfl, upd_same, fun dx H' hdx hne e => ⟨rfl, dx, [(f2, y2), (f1, y1)], ?_, ?_, ?_, ?_⟩⟩⟩
  · rw [e, upd_ne (Ne.symm hne)]; exact upd_same
  · rw [e]; exact upd_same
  · rw [upd_ne hne] at hdx; exact hdx
  · have hd : H dx = none := by rw [upd_ne hne] at hdx; exact hdx
    rw [e, two_fields ha hne]
    exact q dx _ (Same.new hd _) hd upd_same
/-! ### isinstance(e, c) of the error that a suite holds -/
def rIsX (K : PySem.W.Frag) (a : Addr) (cls : Value) (d : Option Addr) (C : Addr) : List V → Hp → VK → Prop := fun xs H Q => cls = .ref C ∧ ∃ (dd : Addr) (fs : List (Str × V)) (c : V) (cv : Value) (b : Bool), d = some dd ∧ H dd = some (.xd fs) ∧ xs = [.ref a, c] ∧ (∀ u, RelV c u → u = cv) ∧
  PySem.W.kitOne K (.ref C) cv = some b ∧ Q (.bl b) H
theorem call_isX {X : Cx} {a C : Addr} {oe : Obj} {cls : Value} {d : Option Addr} {pn : List (Addr × Obj)} (T : ExcC X.K C) (hz : Zc cls d oe) (hf : ∃ vs, oe.data = .fields vs) : CallR (X.suite a ((a, oe) :: pn)) (.builtin "isinstance") (rIsX X.K a cls d C) := by
  rintro pins s σ H xs us Q I r ⟨rfl, dd, fs, c, cv, b, rfl, eH, rfl, hcv, hk, q⟩
  cases r with
  | cons r1 rr =>
    cases rr with
    | cons r2 rr =>
      cases rr
      cases r1
      obtain rfl := hcv _ r2
      obtain ⟨live, _⟩ := I.pin (a, oe) (List.mem_append_left _ List.mem_cons_self)
      obtain ⟨vs, hv⟩ := hf
      have there : ObjOk X.prog X.w H s.heap dd (.xd fs) := I.hok dd _ eH
      obtain ⟨mA, ns, _⟩ := there
      obtain ⟨od, hod, _⟩ := lookIn_ns ns
      have J : PySem.W.InstAt s.heap a oe C (some od) := ⟨live, hz.1, by unfold PySem.W.notCls; rw [hv] <;> rfl, by rw [hz.2]; exact hod⟩
      have cl : (PySem.W.clsIn X.K C).isSome = true := by
        obtain ⟨cd, hc, _⟩ := PySem.W.any_some T.hd
        rw [hc]
        rfl
      exact PySem.W.kia_one (PySem.W.kitx_exc cl T.hg T.hk T.hs T.ha T.hn T.ht T.hm) I.kIn J hk (fun z => nomatch z) fun tk => ⟨.bl b, H, I.kept (t' := tk) fun _ _ z => z, rfl, q⟩
/-! ### C(..) and o.m(..) in a body whose errors are caught -/
/-- a new object of the class at C, its errors at the slots -/
def tMakeAt (C : Addr) (sp : Sp) (E : L2.St → XK) (t : TA) : TE := fun σ H Q => t σ H fun vs H1 => ∀ x dx, H1 x = none → H1 dx = none → dx ≠ x →
  sp (.ref x :: vs) (upd (upd H1 dx (.own x)) x (.ins C dx [])) (fun v H2 => v = .non ∧ Q (.ref x) H2) (E σ)
def tMethAt (C : Addr) (m : Str) (sp : Sp) (E : L2.St → XK) (ta : TE) (t : TA) : TE := fun σ H Q => ta σ H fun x H1 => ∃ a dx fs, x = .ref a ∧ H1 a = some (.ins C dx fs) ∧ fs.lookup m = none ∧ t σ H1 fun vs H2 => sp (x :: vs) H2 Q (E σ)
section
variable {X : Cx} {CX : CXT} {k : Nat} {f C : Addr} {fd : FuncData} {ps : List Str} {sp : Sp} {E : L2.St → XK} {x m : Str} {p pos apos : Pos} {e o : Expr} {es : List Expr} {ta : TE} {t : TA}
theorem run_makeAt {pins : List (Addr × Obj)} {σ : L2.St} {H : Hp} {s : Shared} {Q : VK} {us : List Value} {vs : List V} (M : Mk X.K C f) (F : FnOk X.prog X.w X.K X.mg X.base CX k f fd ps sp) (room : Room (k + 1) X.A) (bd : Binds X.K fd ps []) (go : PassesAt CX X σ (E σ))
    (I : Inv X pins σ H s) (r : Vals vs us) (want : ∀ x dx, H x = none → H dx = none → dx ≠ x → sp (.ref x :: vs) (upd (upd H dx (.own x)) x (.ins C dx [])) (fun v H2 => v = .non ∧ Q (.ref x) H2) (E σ)) :
    wpAny (model X.prog X.w) X.A (call (.ref C) us) (EP X pins σ Q) X.xe s := by
  let n := s.heap.objs.size
  have now := want (n + 1) n (I.hok.fresh (Nat.le_succ _)) (I.hok.fresh (Nat.le_refl _)) (Nat.ne_of_lt (Nat.lt_succ_self _))
  have J := Inv.made (C := C) I
  have both : Vals (V.ref (n + 1) :: vs) (Value.ref (n + 1) :: us) := .cons rfl r
  have many : ((Value.ref (n + 1) :: us) ++ []).length = ps.length := by
    rw [List.append_nil, ← both.length]
    exact F.len _ _ _ _ now
  have bt := bd _ (Value.ref (n + 1) :: us) J.kIn many
  rw [List.append_nil] at bt
  have ran := F.run _ X.stack _ _ ⟨Value.ref (n + 1) :: us, []⟩ (Value.ref (n + 1) :: us) _ _ (E σ) (room.make C us []) (J.env0.make C us []) bt both now
  refine wpAny_call (make_map (f := f) I.kIn M.makes M.init (beq_iff_eq.mp M.fn) (codeAny_mono ran fun res s' end_ => ?_))
  match res, end_ with
  | .error e, end_ => exact go pins _ _ e s' J end_
  | .ok (.ret u), end_ =>
    obtain ⟨v, H', L, rv, rfl, q3⟩ := J.after end_
    exact ⟨rv, V.ref (n + 1), H', L, rfl, q3⟩
  | .ok .next, end_ => exact False.elim end_
  | .ok .brk, end_ => exact False.elim end_
  | .ok .cont, end_ => exact False.elim end_
theorem pe_makeAt (M : Mk X.K C f) (F : FnOk X.prog X.w X.K X.mg X.base CX k f fd ps sp) (room : Room (k + 1) X.A) (hg : Gl X x) (hm : X.mg x = some (.ref C)) (bd : Binds X.K fd ps []) (go : ∀ σ, PassesAt CX X σ (E σ))
    (ha : PA X (e :: es) t) (hdb : (x == ("__debug__" : Str)) = false := by decide) (he : starEach (e :: es) X.env = (false, eval e X.env) :: starEach es X.env := by rfl) (hpl : (backTo pos (starEach es X.env)).any (·.1) = false := by rfl) :
    PE X (.Call (.Name x p) (e :: es) [] pos) (tMakeAt C sp E t) :=
  ⟨fun pins s σ H Q I want => wpAny_Call_Name_kw (ld_glob I hg hm (PySem.W.callWith_K (h₀ := X.base) I.ok.mod.kin M.kp (thn (ha.run pos pins s σ H _ I want) fun us s1 ⟨vs, H1, J, r, q⟩ => ⟨J.kIn, run_makeAt M F room bd (go σ) J r q⟩) he hpl) hdb)⟩
theorem pe_methAt {pl : Sem Bool} (he : PE X o ta) (c : Cls X.K C) (hm : Meth X.K C m f) (F : FnOk X.prog X.w X.K X.mg X.base CX k f fd ps sp) (room : Room k X.A) (bd : Binds X.K fd ps []) (go : ∀ σ, PassesAt CX X σ (E σ)) (ha : PA X (e :: es) t)
    (hst : starEach (e :: es) X.env = (false, eval e X.env) :: starEach es X.env := by rfl) (hpl : (backTo pos (starEach es X.env)).any (·.1) = false := by rfl)
    (ht : eval (.Call (.Attribute o m apos) (e :: es) [] pos) X.env = (eval o X.env >>= fun ov => standAt apos.atName >>= fun _ => holding [ov] (getMethod ov m pl) >>= fun q => callWith pos q.1 q.2 (backTo pos (starEach (e :: es) X.env)) (backToKw pos (keywordEach [] X.env))) := by rfl) :
    PE X (.Call (.Attribute o m apos) (e :: es) [] pos) (tMethAt C m sp E ta t) := by
  refine ⟨fun pins s σ H Q I want => PySem.W.methodCall_KW (pl := pl) (thn (he.run pins s σ H _ I want) fun u s1 ⟨y, H1, J, ry, rest⟩ => ?_) ht⟩
  obtain ⟨a, dx, fs, rfl, ea, l, q⟩ := rest
  cases ry
  refine getmeth_ok J ea c hm l (PySem.W.callWith_K (first := [.ref a]) (h₀ := X.base) J.ok.mod.kin hm.kp (thn (ha.run pos pins s1 σ H1 _ J q) fun us s2 ⟨vs, H2, L, r, q2⟩ => ⟨L.kIn, ?_⟩) hst hpl)
  exact run_fnS (us := .ref a :: us) (vs := .ref a :: vs) F room bd (go σ) L (.cons rfl r) q2
end
/-! ### == by an own __eq__, either answer -/
def rEqO (C : Addr) (sp : Sp) : R2 := fun x y H Q => ∃ (a b dx dy : Addr) (fs gs : List (Str × V)), x = .ref a ∧ y = .ref b ∧ H a = some (.ins C dx fs) ∧ H b = some (.ins C dy gs) ∧ sp [.ref a, .ref b] H (fun v H' => ∃ r, v = .bl r ∧ Q (.bl r) H') E0
theorem op_eqO {X : Cx} {k : Nat} {f C : Addr} {fd : FuncData} {ps : List Str} {sp : Sp} (F : FnOk X.prog X.w X.K X.mg X.base CX0 k f fd ps sp) (own : PySem.W.findIn X.K (.ref C) "__eq__" = some (some (.ref f))) (fun_ : PySem.W.isFn X.K (.ref f) = true)
    (bd : Binds X.K fd ps []) (room : Room k X.A) : OpR X (compareOp .Eq) (rEqO C sp) := by
  rintro pins s σ H x y v u Q I rx ry ⟨a, b, dx, dy, fs, gs, rfl, rfl, ea, eb, want⟩
  cases rx
  cases ry
  obtain ⟨_, ja, _⟩ := ins_get I.hok ea
  obtain ⟨_, jb, _⟩ := ins_get I.hok eb
  obtain ⟨_, la, _⟩ := ja.look
  obtain ⟨_, lb, _⟩ := jb.look
  obtain ⟨_, frs_⟩ := I.fr
  show wpAny _ _ (richCompare .Eq (.ref a) (.ref b)) _ _ _
  refine PySem.W.cmp_K (op := .Eq) (tb := .ref C) room.units0 frs_ I.ok.mod.kin la lb.type (by simp [PySem.W.notFirst]) own fun_ ?_
  refine wpAny_mono (run_fn (vs := [.ref a, .ref b]) (us := [.ref a, .ref b]) F room bd .nil pass0 I (.cons rfl (.cons rfl .nil)) want) (fun u s' got => ?_) fun _ _ z => z
  obtain ⟨v, H', J, rv, r, rfl, q⟩ := got
  cases rv
  exact ⟨.bl r, H', J, rfl, q⟩
end Td
/-! != of two objects of a class that has an own == alone. -/
namespace Td
open PySem PySem.Spec PyProof.Rows L2
section
variable {prog : Program} {w : World} {A : Around} {E : Value → Shared → Prop} {s : Shared} {K : PySem.W.Frag} {x C f : Addr} {ox : Obj} {od : Option Obj} {b : Value}
theorem neCheck (X : K.In s.heap) (I : PySem.W.InstAt s.heap x ox C od) (hs : PySem.W.subIn K (.ref C) (.type "object") = some true) {Q : Unit → Shared → Prop} (hq : Q () s) :
    wpAny (model prog w) A (checkBuiltinCall "object.__ne__" ⟨[.ref x, b], []⟩) Q E s := by
  simp only [checkBuiltinCall, F.cmpKind_ne, F.cmpSplit_ne]
  refine wpAny_bind ?_
  unfold isInstance
  refine wpAny_bind (I.type.here ?_)
  refine (PySem.W.looks_subIn X hs).here ?_
  cases hsig : Manifest.signature? "object.__ne__" with
  | none => exact wpAny_pure hq
  | some sig =>
    have ha := F.cmpArgs_ne (.ref x) b
    simp only [argsOk, hsig] at ha
    have h2 : Bind.checkArgs "object.__ne__" sig ⟨[.ref x, b], []⟩ = pure () := ha
    show wpAny _ A (Bind.checkArgs "object.__ne__" sig ⟨[.ref x, b], []⟩) Q E _
    rw [h2]; exact wpAny_pure hq
theorem neEntry (X : K.In s.heap) (I : PySem.W.InstAt s.heap x ox C od) (hs : PySem.W.findIn K (.ref C) "__eq__" = some (some (.ref f))) (hf : PySem.W.isFn K (.ref f) = true) (hu : A.units < cLine) {Q : Fin → Shared → Prop}
    (h : wpAny (model prog w) A (call (.ref f) [.ref x, b]) (fun v s' => ∃ r, v = .bool r ∧ Q (.done (.ret (.bool (!r)))) s') E s) :
    wpAny (model prog w) A (Builtin.«object.__ne__» ⟨[.ref x, b], []⟩) Q E s := by
  unfold Builtin.«object.__ne__»
  repeat (first
    | with_reducible refine wpAny_cRoomFor hu ?_
    | (refine wpAny_bind (m := callSpecialIfBound? (.ref x) (Str.ofString "__eq__") [b])
        (PySem.W.ifBound_K X I hs hf (wpAny_mono h (fun r s' hr => by
          obtain ⟨r, rfl, hq⟩ := hr
          repeat (first | exact hq | exact wpAny_pure hq | exact wpAny_truthy_bool hq | (refine wpAny_bind (m := truthy (.bool _)) (wpAny_truthy_bool ?_)) | wp_step)) fun _ _ e => e)))
    | wp_step)
theorem neBound (X : K.In s.heap) (I : PySem.W.InstAt s.heap x ox C od) (hn : PySem.W.findIn K (.ref C) "__ne__" = some (some (.builtin "object.__ne__"))) {Q : Option Value → Shared → Prop}
    (h : wpAny (model prog w) A (call (.builtin "object.__ne__") [.ref x, b]) (fun v => Q (some v)) E s) : wpAny (model prog w) A (callSpecialIfBound? (.ref x) "__ne__" [b]) Q E s := by
  simp only [callSpecialIfBound?, bindSpecialIfBound?]
  refine wpAny_holding (wpAny_bind (wpAny_bind (wpAny_bind (I.type.here ((PySem.W.looks_findIn X hn).here ?_)))))
  simp only [F.cmp_object.ne.bind]
  refine wpAny_bind (wpAny_askSetting (wpAny_ite ?_))
  have fin : wpAny (model prog w) A (call (.builtin "object.__ne__") ([.ref x] ++ [b]) >>= fun v => pure (some v)) Q E s := wpAny_bind (wpAny_mono h (fun v s' h' => wpAny_pure h') fun _ _ h' => h')
  split
  · exact wpAny_bind (wpAny_pure (wpAny_pure fin))
  · exact wpAny_tryCatch (wpAny_bind (wpAny_pure (wpAny_pure fin)))
/-- x != b -/
theorem neCmp {y : Addr} (X : K.In s.heap) (I : PySem.W.InstAt s.heap x ox C od) (hb : PySem.W.Looks (model prog w) s.heap (typeOf (.ref y)) (.ref C)) (hn : PySem.W.findIn K (.ref C) "__ne__" = some (some (.builtin "object.__ne__")))
    (ho : PySem.W.subIn K (.ref C) (.type "object") = some true) (hs : PySem.W.findIn K (.ref C) "__eq__" = some (some (.ref f))) (hf : PySem.W.isFn K (.ref f) = true) (hu : A.units + 1 < cLine) {Q : Value → Shared → Prop}
    (h : wpAny (model prog w) A.in1 (call (.ref f) [.ref x, .ref y]) (fun v s' => ∃ r, v = .bool r ∧ Q (.bool (!r)) s') E s) : wpAny (model prog w) A (richCompare .NotEq (.ref x) (.ref y)) Q E s := by
  have one : wpAny (model prog w) A (tryCompare (.ref x) "__ne__" (.ref y)) (fun r s' => ∃ r', r = some (.bool r') ∧ Q (.bool r') s') E s := by
    unfold tryCompare
    refine wpAny_bind (neBound X I hn (wpAny_call (codeAny_call_builtin F.cmp_object.ne.plain F.cmpEntry_ne (neCheck X I ho (neEntry (A := A.in1) X I hs hf hu (wpAny_mono h (fun v s' hv => ?_) fun _ _ e => e))))))
    obtain ⟨r, rfl, hq⟩ := hv
    first | exact ⟨_, rfl, wpAny_pure ⟨_, rfl, hq⟩⟩ | exact ⟨_, rfl, wpAny_pure (wpAny_pure ⟨_, rfl, hq⟩)⟩
  unfold richCompare
  simp only [oneThing_ref]
  refine wpAny_holding (wpAny_bind (wpAny_cRoomFor (Nat.lt_of_succ_lt hu) ?_))
  rw [cmpInfo_NotEq]
  dsimp only
  refine wpAny_bind (I.type.here (wpAny_bind (hb.here ?_)))
  rw [show (Value.ref C != Value.ref C) = false from by simp]
  simp only [Bool.false_eq_true, if_false]
  refine wpAny_bind (wpAny_pure ?_)
  simp only [Bool.false_eq_true, if_false]
  refine wpAny_bind (wpAny_mono one (fun r s' hv => ?_) fun _ _ e => e)
  obtain ⟨r', rfl, hq⟩ := hv
  exact wpAny_pure hq
end
theorem op_neO {X : Cx} {k : Nat} {f C : Addr} {fd : FuncData} {ps : List Str} {sp : Sp} (F : FnOk X.prog X.w X.K X.mg X.base CX0 k f fd ps sp) (own : PySem.W.findIn X.K (.ref C) "__eq__" = some (some (.ref f))) (fun_ : PySem.W.isFn X.K (.ref f) = true)
    (hn : PySem.W.findIn X.K (.ref C) "__ne__" = some (some (.builtin "object.__ne__"))) (ho : PySem.W.subIn X.K (.ref C) (.type "object") = some true) (bd : Binds X.K fd ps []) (room : Room (k + 1) X.A) :
    OpR X (compareOp .NotEq) (fun x y H Q => rEqO C sp x y H fun v H' => ∃ r, v = .bl r ∧ Q (.bl (!r)) H') := by
  rintro pins s σ H x y v u Q I rx ry ⟨a, b, dx, dy, fs, gs, rfl, rfl, ea, eb, want⟩
  cases rx
  cases ry
  obtain ⟨_, ja, _⟩ := ins_get I.hok ea
  obtain ⟨_, jb, _⟩ := ins_get I.hok eb
  obtain ⟨_, la, _⟩ := ja.look
  obtain ⟨_, lb, _⟩ := jb.look
  obtain ⟨_, frs_⟩ := I.fr
  have X0 := I.kIn
  show wpAny _ _ (richCompare .NotEq (.ref a) (.ref b)) _ _ _
  refine neCmp X0 la lb.type hn ho own fun_ (by have := room.un; omega) ?_
  have want2 : sp ([.ref a, .ref b] ++ []) H (fun v H' => ∃ r, v = .bl r ∧ ∃ r', V.bl r = .bl r' ∧ Q (.bl (!r')) H') E0 := want
  have r2 : Vals ([V.ref a, .ref b] ++ []) ([Value.ref a, .ref b] ++ []) := .cons rfl (.cons rfl .nil)
  have hl : ([Value.ref a, .ref b] ++ []).length = ps.length := by rw [← r2.length]; exact F.len _ _ _ _ want2
  refine wpAny_call (codeAny_mono (F.run X.A.in1 X.stack s H ⟨[.ref a, .ref b], []⟩ ([.ref a, .ref b] ++ []) ([.ref a, .ref b] ++ []) _ _ room.in1 I.env0.in1 (bd s [.ref a, .ref b] I.kIn hl) r2 want2) fun r s' hq => ?_)
  cases r with
  | error e => exact False.elim hq
  | ok fl =>
    cases fl with
    | ret u =>
      obtain ⟨v, H', J, rv, r, rfl, r', e, q⟩ := I.after hq
      cases e
      cases rv
      exact ⟨_, rfl, .bl (!r), H', J, rfl, q⟩
    | next => exact False.elim hq
    | brk => exact False.elim hq
    | cont => exact False.elim hq
end Td
/-! Objects' own |, &, -, in, len, bool. -/
namespace Td
open PySem PySem.Spec PyProof.Rows L2
section
variable {prog : Program} {w : World} {A : Around} {E : Value → Shared → Prop} {s : Shared} {K : PySem.W.Frag} {x C f : Addr} {ox : Obj} {od : Option Obj}
/-- the truth of an object that has a len alone -/
theorem truth_len {Q : Bool → Shared → Prop} (X : K.In s.heap) (I : PySem.W.InstAt s.heap x ox C od) (nb : PySem.W.findIn K (.ref C) "__bool__" = some none) (hs : PySem.W.findIn K (.ref C) "__len__" = some (some (.ref f))) (hf : PySem.W.isFn K (.ref f) = true)
    (h : wpAny (model prog w) A.in1 (call (.ref f) [.ref x]) (PySem.W.LenBack fun v s' => ∃ n u, v = .int n u ∧ Q (n != 0) s') E s) : wpAny (model prog w) A (truthy (.ref x)) Q E s := by
  unfold truthy
  refine wpAny_bind (m := callSpecial? (.ref x) (Str.ofString "__bool__")) (wpAny_bind (wpAny_bind (I.type.here ((PySem.W.looks_findIn X nb).here (wpAny_pure ?_)))))
  refine wpAny_bind (wpAny_bind (I.type.here ((PySem.W.looks_findIn X hs).here ?_)))
  rw [if_neg (by simp)]
  refine wpAny_bind (wpAny_runValue (codeAny_builtin entry_len ?_))
  rw [Around.under_plainId plain_len _]
  unfold Builtin.«len»
  refine wpAny_bind (m := oneArg "len" _) (wpAny_pure ?_)
  refine wpAny_bind (m := callSpecial? (.ref x) (Str.ofString "__len__")) (PySem.W.special_fn X I hs (beq_iff_eq.mp hf) (wpAny_mono h (fun r s' hr => ?_) fun _ _ y => y))
  cases r <;> first | exact hr.elim | skip
  rename_i n u
  obtain ⟨⟨h0, h1⟩, n2, u2, e2, hq⟩ := hr
  cases e2
  refine wpAny_bind (wpAny_holding (wpAny_pure ?_))
  refine wpAny_bind (wpAny_letGo ?_)
  show wpAny _ _ (if n < 0 then _ else _) _ _ _
  rw [if_neg (by omega)]
  show wpAny _ _ (if n ≥ 2 ^ 63 then _ else _) _ _ _
  rw [if_neg (by omega)]
  exact wpAny_bind (wpAny_mkInt (wpAny_pure (wpAny_pure hq)))
/-- bool(x), over x's truth -/
theorem bool_by {v : Value} {Q : Value → Shared → Prop} (go : wpAny (model prog w) A.in1.in1 (truthy v) (fun b s' => Q (.bool b) s') E s) : wpAny (model prog w) A (call (.type "bool") [v]) Q E s := by
  have k1 := PySem.F.called_bool
  obtain ⟨c, tl, k2⟩ := k1.mro
  have k3 := k1.made
  have k4 := k1.sub
  have k5 := k1.notType
  have k6 := k1.canCreate
  have k7 := PySem.F.typeCall_bool_1 v
  refine wpAny_call (codeAny_of_tree (wpAny_pure ⟨Code.quiet_builtin _ (by decide +kernel), codeAny_builtin PySem.F.entry_type_call ?_⟩))
  rw [Around.under_plain (weight_type_call_type "bool" [v] []) rfl]
  repeat (any_goals (first | assumption | wp_step))
  refine codeAny_mono (codeAny_call_builtin (R := wants (fun y s1 => ∃ b, y = .bool b ∧ Q (.bool b) s1) E) k1.plain PySem.F.entry_bool_new (wpAny_of_eq (PySem.F.newCall_bool_1 v) ?_)) fun r s1 hr => ?_
  · have f1 := PySem.F.conv_sub_bool
    unfold truthy at go
    repeat (any_goals (first | assumption | wp_step))
    exact wpAny_mono go (fun b s' q => wpAny_pure ⟨b, rfl, q⟩) fun _ _ e => e
  · match r, hr with
    | .error e, hr => exact hr
    | .ok (.ret y), hr =>
      obtain ⟨b, rfl, q⟩ := hr
      have k8 := k1.init.lookup
      have k9 := k1.init.bind (.bool b)
      repeat (any_goals (first | assumption | wp_step))
      refine codeAny_mono (codeAny_call_builtin (R := wants (fun r s2 => r = .none ∧ Q (.bool b) s2) E) k1.init.plain PySem.F.entry_object_init (k1.init.check _ _ _ _ _ _ _ _ (show s1.TypeIs (.bool b) "bool" from rfl) (PySem.F.args_object_init_2 (.bool b) v)
        (object_init_meets k8 k3 PySem.F.newNe_bool prog w A.in1 _ s1 ⟨rfl, rfl, q⟩))) fun r2 s2 h2 => ?_
      match r2, h2 with
      | .error e, h2 => exact h2
      | .ok (.ret y), h2 =>
        obtain ⟨rfl, q⟩ := h2
        repeat (any_goals (first | assumption | wp_step))
end
section
variable {X : Cx} {k : Nat} {f C : Addr} {fd : FuncData} {ps : List Str} {sp : Sp} {op : Operator}
/-- x op y by the class's own method; a new object back -/
def rOwn2 (C : Addr) (sp : Sp) : R2 := fun x y H Q => ∃ (a b dx dy : Addr) (fs gs : List (Str × V)), x = .ref a ∧ y = .ref b ∧ H a = some (.ins C dx fs) ∧ H b = some (.ins C dy gs) ∧ sp [.ref a, .ref b] H (fun v H' => ∃ p, v = .ref p ∧ Q (.ref p) H') E0
theorem op_own2 (F : FnOk X.prog X.w X.K X.mg X.base CX0 k f fd ps sp) (own : PySem.W.findIn X.K (.ref C) (PySem.dunder op.info.2) = some (some (.ref f))) (fun_ : PySem.W.isFn X.K (.ref f) = true) (first : PySem.W.selfFirst X.K C = true)
    (bd : Binds X.K fd ps []) (room : Room k X.A) : OpR X (binaryOp op) (rOwn2 C sp) := by
  rintro pins s σ H x y v u Q I rx ry ⟨a, b, dx, dy, fs, gs, rfl, rfl, ea, eb, want⟩
  cases rx
  cases ry
  obtain ⟨_, ja, _⟩ := ins_get I.hok ea
  obtain ⟨_, jb, _⟩ := ins_get I.hok eb
  obtain ⟨_, la, _⟩ := ja.look
  obtain ⟨_, lb, _⟩ := jb.look
  obtain ⟨_, frs_⟩ := I.fr
  refine PySem.W.binop_K frs_ I.ok.mod.kin la lb.type first own fun_ ?_
  refine wpAny_mono (run_fn (vs := [.ref a, .ref b]) (us := [.ref a, .ref b]) F room bd .nil pass0 I (.cons rfl (.cons rfl .nil)) want) (fun u s' got => ?_) fun _ _ z => z
  obtain ⟨v, H', J, rv, p, rfl, q⟩ := got
  cases rv
  exact ⟨.ref p, H', J, rfl, q⟩
/-- y in x, y not in x by the class's own method -/
def rOwnIn (C : Addr) (sp : Sp) (neg : Bool) : R2 := fun y x H Q => ∃ (a dx : Addr) (fs : List (Str × V)), x = .ref a ∧ H a = some (.ins C dx fs) ∧ sp [.ref a, y] H (fun v H' => ∃ r, v = .bl r ∧ Q (.bl (if neg then !r else r)) H') E0
theorem op_ownIn (F : FnOk X.prog X.w X.K X.mg X.base CX0 k f fd ps sp) (own : PySem.W.findIn X.K (.ref C) "__contains__" = some (some (.ref f))) (fun_ : PySem.W.isFn X.K (.ref f) = true)
    (bd : Binds X.K fd ps []) (room : Room k X.A) : OpR X (compareOp .In) (rOwnIn C sp false) := by
  rintro pins s σ H y x v u Q I ry rx ⟨a, dx, fs, rfl, ea, want⟩
  cases rx
  obtain ⟨_, ja, _⟩ := ins_get I.hok ea
  obtain ⟨_, la, _⟩ := ja.look
  obtain ⟨_, frs_⟩ := I.fr
  refine PySem.W.in_K frs_ I.ok.mod.kin la own fun_ ?_
  refine wpAny_mono (run_fn (vs := [.ref a, y]) (us := [.ref a, v]) F room bd .nil pass0 I (.cons rfl (.cons ry .nil)) want) (fun u s' got => ?_) fun _ _ z => z
  obtain ⟨v, H', J, rv, r, rfl, q⟩ := got
  cases rv
  exact wpAny_truthy_bool ⟨.bl r, H', J, rfl, q⟩
theorem op_ownNotIn (F : FnOk X.prog X.w X.K X.mg X.base CX0 k f fd ps sp) (own : PySem.W.findIn X.K (.ref C) "__contains__" = some (some (.ref f))) (fun_ : PySem.W.isFn X.K (.ref f) = true)
    (bd : Binds X.K fd ps []) (room : Room k X.A) : OpR X (compareOp .NotIn) (rOwnIn C sp true) := by
  rintro pins s σ H y x v u Q I ry rx ⟨a, dx, fs, rfl, ea, want⟩
  cases rx
  obtain ⟨_, ja, _⟩ := ins_get I.hok ea
  obtain ⟨_, la, _⟩ := ja.look
  obtain ⟨_, frs_⟩ := I.fr
  refine PySem.W.notIn_K frs_ I.ok.mod.kin la own fun_ ?_
  refine wpAny_mono (run_fn (vs := [.ref a, y]) (us := [.ref a, v]) F room bd .nil pass0 I (.cons rfl (.cons ry .nil)) want) (fun u s' got => ?_) fun _ _ z => z
  obtain ⟨v, H', J, rv, r, rfl, q⟩ := got
  cases rv
  exact wpAny_truthy_bool ⟨.bl !r, H', J, rfl, q⟩
/-- a def, called further in -/
theorem run_in {A : Around} {pins : List (Addr × Obj)} {s : Shared} {σ : L2.St} {H : Hp} {vs : List V} {us : List Value} {Q : VK} (F : FnOk X.prog X.w X.K X.mg X.base CX0 k f fd ps sp) (bd : Binds X.K fd ps []) (I : Inv X pins σ H s) (room : Room k A)
    (env : Env0 X.prog X.w X.K X.mg X.base A X.stack s H) (r : Vals vs us) (want : sp vs H Q E0) {E : Value → Shared → Prop} : wpAny (model X.prog X.w) A (call (.ref f) us) (EP X pins σ Q) E s := by
  have want2 : sp (vs ++ []) H Q E0 := by rw [List.append_nil]; exact want
  have r2 : Vals (vs ++ []) (us ++ []) := by rw [List.append_nil, List.append_nil]; exact r
  have hl : (us ++ []).length = ps.length := by rw [← r2.length]; exact F.len _ _ _ _ want2
  refine wpAny_call (codeAny_mono (F.run A X.stack s H ⟨us, []⟩ (us ++ []) (vs ++ []) Q _ room env (bd s us I.kIn hl) r2 want2) fun out s' hq => ?_)
  match out, hq with
  | .error e, hq => exact False.elim hq
  | .ok (.ret u), hq => exact I.after hq
  | .ok .next, hq => exact hq.elim
  | .ok .brk, hq => exact hq.elim
  | .ok .cont, hq => exact hq.elim
/-- what an own len is asked for -/
def OwnLen (C : Addr) (sp : Sp) (x : V) (H : Hp) (Q : Int → Hp → Prop) : Prop := ∃ (a dx : Addr) (fs : List (Str × V)), x = .ref a ∧ H a = some (.ins C dx fs) ∧ sp [.ref a] H (fun v H' => ∃ n : Int, v = .int n ∧ 0 ≤ n ∧ n < 2 ^ 63 ∧ Q n H') E0
theorem cr_ownLen (F : FnOk X.prog X.w X.K X.mg X.base CX0 k f fd ps sp) (own : PySem.W.findIn X.K (.ref C) "__len__" = some (some (.ref f))) (fun_ : PySem.W.isFn X.K (.ref f) = true)
    (bd : Binds X.K fd ps []) (room : Room (k + 1) X.A) : CallR X (.builtin "len") (fun xs H Q => ∃ x, xs = [x] ∧ OwnLen C sp x H fun n H' => Q (.int n) H') := by
  rintro pins s σ H xs us Q I r ⟨x, rfl, a, dx, fs, rfl, ea, want⟩
  rw [Vals.ref1 r]
  obtain ⟨_, ja, _⟩ := ins_get I.hok ea
  obtain ⟨_, la, _⟩ := ja.look
  obtain ⟨_, frs_⟩ := I.fr
  refine PySem.W.len_K frs_ I.ok.mod.kin la own fun_ (wpAny_mono (run_in (vs := [.ref a]) (us := [.ref a]) F bd I room.in1 I.env0.in1 (.cons rfl .nil) want) (fun u s' got => ?_) fun _ _ z => z)
  obtain ⟨v, H', J, rv, n, rfl, n0, n1, q⟩ := got
  obtain ⟨t, rfl⟩ := rv
  exact ⟨⟨n0, n1⟩, .int n, H', J.tok _, ⟨_, rfl⟩, q⟩
/-- bool(x), x with an own len -/
theorem cr_ownBool (F : FnOk X.prog X.w X.K X.mg X.base CX0 k f fd ps sp) (own : PySem.W.findIn X.K (.ref C) "__len__" = some (some (.ref f))) (none_ : PySem.W.findIn X.K (.ref C) "__bool__" = some none) (fun_ : PySem.W.isFn X.K (.ref f) = true)
    (bd : Binds X.K fd ps []) (room : Room (k + 3) X.A) : CallR X (.type "bool") (fun xs H Q => ∃ x, xs = [x] ∧ OwnLen C sp x H fun n H' => Q (.bl (n != 0)) H') := by
  rintro pins s σ H xs us Q I r ⟨x, rfl, a, dx, fs, rfl, ea, want⟩
  rw [Vals.ref1 r]
  obtain ⟨_, ja, _⟩ := ins_get I.hok ea
  obtain ⟨_, la, _⟩ := ja.look
  refine bool_by (truth_len I.kIn la none_ own fun_ (wpAny_mono (run_in (vs := [.ref a]) (us := [.ref a]) F bd I room.in1.in1.in1 I.env0.in1.in1.in1 (.cons rfl .nil) want) (fun u s' got => ?_) fun _ _ z => z))
  obtain ⟨v, H', J, rv, n, rfl, n0, n1, q⟩ := got
  obtain ⟨t, rfl⟩ := rv
  exact ⟨⟨n0, n1⟩, n, _, rfl, .bl (n != 0), H', J.tok _, rfl, q⟩
end
end Td
/-! sorted(set(t)) of a list of texts. -/
namespace TdSs
open PySem PySem.Spec PyProof.Rows L2 PySem.Froz
/-- the entry's text -/
def tx (e : Int × Value) : Str := match e.2 with | .str k _ => k | _ => Str.empty
/-- each text once, the new ones in front -/
def dd : List Str → List Str → List Str
  | [], l => l
  | z :: r, l => if z ∈ l then dd r l else dd r (z :: l)
theorem dd_nodup : ∀ (xs l : List Str), l.Nodup → (dd xs l).Nodup
  | [], l, h => h
  | z :: r, l, h => by
    unfold dd
    split
    · exact dd_nodup r l h
    · rename_i n; exact dd_nodup r _ (List.nodup_cons.mpr ⟨n, h⟩)
theorem dd_mem {k : Str} : ∀ (xs l : List Str), k ∈ dd xs l ↔ k ∈ xs ∨ k ∈ l
  | [], l => by simp [dd]
  | z :: r, l => by
    unfold dd
    split
    · rename_i m
      rw [dd_mem r l, List.mem_cons]
      constructor
      · exact fun h => h.elim (fun a => .inl (.inr a)) .inr
      · rintro ((rfl | a) | a)
        · exact .inr m
        · exact .inl a
        · exact .inr a
    · rw [dd_mem r _, List.mem_cons, List.mem_cons]
      constructor
      · rintro (a | a | a)
        · exact .inl (.inr a)
        · exact .inl (.inl a)
        · exact .inr a
      · rintro ((a | a) | a)
        · exact .inr (.inl a)
        · exact .inl a
        · exact .inr (.inr a)
theorem dd_len : ∀ (xs l : List Str), (dd xs l).length ≤ xs.length + l.length
  | [], l => by simp [dd]
  | z :: r, l => by
    unfold dd
    split
    · have := dd_len r l; simp only [List.length_cons]; omega
    · have := dd_len r (z :: l); simp only [List.length_cons] at this ⊢; omega
/-- the payload: the texts l, its table in order -/
structure Pay (P : Program) (w : World) (D : SD) (l : List Str) : Prop where
  ok : TxOk P w D l
  txs : (D.1.toList.map tx).Perm l
  str : ∀ e ∈ D.1.toList, ∃ k u, e.2 = Value.str k u
  ris : Ris D.2.2.place.toList
  led : w.params.followText "set-order" = true ∨ D.2.2.led = true
section
variable {P : Program} {w : World} {A : Around} {E : Value → Shared → Prop} {s : Shared}
theorem Pay.nil (led : Bool) (hl : led = !w.params.followText "set-order") : Pay P w (#[], 0, SetTable.fresh 0 0 led) [] where
  ok := TxOk.nil rfl
  txs := List.Perm.refl _
  str := fun e he => by simp at he
  ris := List.Pairwise.nil
  led := by
    subst hl
    cases w.params.followText "set-order"
    · exact .inr rfl
    · exact .inl rfl
theorem Pay.more {D : SD} {l : List Str} {k : Str} (u : Tok) (F : Pay P w D l) : Pay P w (addTx (hashStr w k) (.str k u) D) (k :: l) := by
  have ok2 := add_ok (k := k) u F.ok
  obtain ⟨es, ep, t⟩ := D
  have pm := layNew_perm t es (hashStr w k) (.str k u)
  have r1 := layNew_ris t es (hashStr w k) (.str k u) F.ris
  have d1 := layNew_led t es (hashStr w k) (.str k u)
  unfold addTx at ok2 ⊢
  dsimp only at pm r1 d1 ok2 ⊢
  generalize layNew t es (hashStr w k) (.str k u) = L at pm r1 d1 ok2 ⊢
  obtain ⟨es1, t1, wd, gv⟩ := L
  dsimp only at pm r1 d1 ok2 ⊢
  have r2 : Ris (if t1.plain = true then { t1 with plain := false } else t1).place.toList := by split <;> exact r1
  have d2 : (if t1.plain = true then { t1 with plain := false } else t1).led = t.led := by split <;> exact d1
  generalize (if t1.plain = true then { t1 with plain := false } else t1) = t2 at r2 d2 ok2 ⊢
  rw [Array.toList_push] at pm
  have pc : es1.toList.Perm ((hashStr w k, Value.str k u) :: es.toList) := pm.trans (List.perm_append_singleton _ _)
  have fl : w.params.followText "set-order" = true ∨ t2.led = true := F.led.imp id fun z => by rw [d2]; exact z
  have st : ∀ e ∈ es1.toList, ∃ k u, e.2 = Value.str k u := fun e he => by
    rcases List.mem_cons.mp (pc.mem_iff.mp he) with z | z
    · exact ⟨k, u, by rw [z]⟩
    · exact F.str e z
  have px : (es1.toList.map tx).Perm (k :: l) := (pc.map tx).trans (F.txs.cons k)
  unfold tailTx at ok2 ⊢
  split
  · rename_i c
    rw [if_pos c] at ok2
    have pr := relayAll_perm t2 es1 (SetTable.grown es1.size)
    exact ⟨ok2, (pr.map tx).trans px, fun e he => st e (pr.mem_iff.mp he), relayAll_ris _ _ _, fl.imp id fun z => (relayAll_led t2 es1 _).trans z⟩
  · rename_i c
    rw [if_neg c] at ok2
    exact ⟨ok2, px, st, r2, fl⟩
/-- a text that is in the set already -/
theorem add_in {a : Addr} {D : SD} {l : List Str} {k : Str} {u : Tok} {Q : Bool → Shared → Prop} (ho : s.heap.get? a = some (sObj "set" D)) (F : TxOk P w D l) (hk : k ∈ l) (hb : l.length < scanBound) (h : Q false s) :
    wpAny (model P w) A (setAddHashed a (.str k u) (hashStr w k)) Q E s := by
  obtain ⟨es, ep, t⟩ := D
  have sz : es.size < scanBound := Nat.lt_of_le_of_lt (Nat.le_of_eq F.sz) hb
  obtain ⟨e, he, q⟩ := (F.mem k).mp hk
  unfold setAddHashed setAddHashedIn
  refine wpAny_holding (wpAny_bind (wpAny_setState_of ho rfl F.fit ?_))
  dsimp only
  rw [byScan_of rfl sz F.el]
  simp only [↓reduceIte]
  unfold setAddByScan
  refine wpAny_bind (wpAny_bind (wpAny_rule (wpAny_bind (wpAny_setScan_of (knd := strKind P w) (k := k) (is_str k u) ho rfl F.fit F.el ?_))))
  cases hf : List.findIdx? (fun e => (strKind P w).is k e.2) es.toList with
  | none =>
    have c := List.findIdx?_eq_none_iff.mp hf e he
    rw [q] at c
    cases c
  | some j => exact wpAny_pure (wpAny_pure h)
/-- a text, in the set or not -/
theorem add_any {a : Addr} {D : SD} {l : List Str} {k : Str} {u : Tok} {Q : Bool → Shared → Prop} (ho : s.heap.get? a = some (sObj "set" D)) (F : Pay P w D l) (hb : l.length + 1 < scanBound)
    (h : ∀ b h' D', Heap.SameBut a s.heap h' → h'.get? a = some (sObj "set" D') → Pay P w D' (dd [k] l) → Q b { s with heap := h' }) : wpAny (model P w) A (setAddHashed a (.str k u) (hashStr w k)) Q E s := by
  by_cases m : k ∈ l
  · refine add_in ho F.ok m (by omega) (h false s.heap D (Heap.SameBut.refl a s.heap) ho ?_)
    show Pay P w D (if k ∈ l then _ else _)
    rw [if_pos m]
    exact F
  · refine add_x ho F.ok m hb (h true _ _ (Heap.SameBut.update _ a _) (get_upd _ ho rfl) ?_)
    show Pay P w _ (if k ∈ l then _ else _)
    rw [if_neg m]
    exact F.more u
end
/-- the set at S has met the first i texts -/
def Had (P : Program) (w : World) (S : Addr) (xs : List Str) (i : Nat) (h : Heap) : Prop := ∃ D, h.get? S = some (sObj "set" D) ∧ Pay P w D (dd (xs.take i) [])
theorem Had.move {P : Program} {w : World} {S : Addr} {xs : List Str} {i : Nat} {h h' : Heap} (m : Had P w S xs i h) (k : ∀ o, h.get? S = some o → h'.get? S = some o) : Had P w S xs i h' := by
  obtain ⟨D, e, r⟩ := m
  exact ⟨D, k _ e, r⟩
theorem dd_snoc (z : Str) : ∀ (xs l : List Str), dd (xs ++ [z]) l = dd [z] (dd xs l)
  | [], l => rfl
  | x :: r, l => by
    show (if x ∈ l then dd (r ++ [z]) l else dd (r ++ [z]) (x :: l)) = dd [z] (if x ∈ l then dd r l else dd r (x :: l))
    split
    · exact dd_snoc z r l
    · exact dd_snoc z r _
section
variable {prog : Program} {w : World} {A : Around} {R : Result → Shared → Prop} {I S : Addr} {fp wr : List Addr} {G : Array GenState → Array GenState → Prop} {i : Nat} {P : Nat → Value → Prop} {St : Nat → Shared → Prop} {xs : List Str} {s : Shared}
theorem turn_last (W : TdSet.Turns prog w A.in1 I fp wr G xs P St) (ns : S ∉ wr) (hst : St xs.length s) (hS : Had prog w S xs xs.length s.heap)
    (fin : ∀ s', Moved wr G s s' → Had prog w S xs xs.length s'.heap → R (.ok (.ret .none)) s') : codeAny (model prog w) A (.builtin "set.update.loop" ⟨[.ref S, .ref I], []⟩) R s :=
  TdSet.round_of (wpAny_bind (W.walks.done s _ _ hst fun s' hm => wpAny_pure (fin s' hm (hS.move fun o e => hm.heap S o ns e))))
theorem turn_next (W : TdSet.Turns prog w A.in1 I fp wr G xs P St) (hf : S ∉ fp) (hn : xs.length < 64) (hi : i < xs.length) (hst : St i s) (hS : Had prog w S xs i s.heap)
    (go : ∀ s', St (i + 1) s' → Had prog w S xs (i + 1) s'.heap → Moved (S :: wr) G s s' → codeAny (model prog w) A (.builtin "set.update.loop" ⟨[.ref S, .ref I], []⟩) R s') :
    codeAny (model prog w) A (.builtin "set.update.loop" ⟨[.ref S, .ref I], []⟩) R s := by
  refine TdSet.round_of (wpAny_bind (W.walks.item i s _ _ hi hst fun v s1 hv st1 m1 => ?_))
  obtain ⟨z, t, hz, rfl⟩ := W.texts i v hv
  obtain ⟨D, hD, F⟩ := hS.move fun o e => m1.heap S o (fun h => hf (W.walks.sub _ h)) e
  have len : (dd (xs.take i) []).length + 1 < scanBound := by
    have := dd_len (xs.take i) []
    rw [List.length_take] at this
    unfold scanBound
    simp at this
    omega
  refine wpAny_bind (wpAny_holding (wpAny_holding (wpAny_bind ((PySem.strKind prog w).pyHash (k := z) (strKind_is _ _ _ _) (add_any (s := { s1 with toks := s1.toks + 1 }) hD F len fun b h2 D2 sb hD2 F2 => ?_)))))
  have keep : ∀ b o, b ≠ S → s1.heap.get? b = some o → h2.get? b = some o := fun b o nb e => by rw [sb.2 b nb]; exact e
  have S2 : Had prog w S xs (i + 1) h2 := ⟨D2, hD2, by rw [List.take_add_one, hz]; exact (dd_snoc z (xs.take i) []).symm ▸ F2⟩
  refine wpAny_pure ⟨plainId_quiet PyProof.Rows.F.plain_set_update_loop _, go _ (W.walks.frame _ s1 _ _ st1 (Nat.le_succ _) fun b hb o e => keep b o (fun q => hf (q ▸ hb)) e) S2 ?_⟩
  exact (m1.mono fun b hb => List.mem_cons_of_mem _ hb).then_heap (Nat.le_succ _) fun b o hb e => keep b o (fun q => hb (q ▸ List.mem_cons_self)) e
theorem turns (W : TdSet.Turns prog w A.in1 I fp wr G xs P St) (hf : S ∉ fp) (hn : xs.length < 64) : ∀ (left i : Nat) (s : Shared), i + left = xs.length → St i s → Had prog w S xs i s.heap →
    (∀ s', Moved (S :: wr) G s s' → Had prog w S xs xs.length s'.heap → R (.ok (.ret .none)) s') → codeAny (model prog w) A (.builtin "set.update.loop" ⟨[.ref S, .ref I], []⟩) R s
  | 0, i, s, e, st, m, fin => by
    have e : i = xs.length := e
    subst e
    exact turn_last W (fun h => hf (W.walks.sub _ h)) st m fun s' mv m' => fin s' (mv.mono fun b hb => List.mem_cons_of_mem _ hb) m'
  | left + 1, i, s, e, st, m, fin =>
    turn_next W hf hn (by omega) st m fun s1 st1 m1 mv1 => turns W hf hn left (i + 1) s1 (by omega) st1 m1 fun s2 mv2 m2 => fin s2 (Moved.trans W.walks.gtrans mv1 mv2) m2
end
section
variable {prog : Program} {w : World} {A : Around} {E : Value → Shared → Prop} {s : Shared}
/-- the new set's own beginning: it takes the list's texts -/
theorem init_list {R : Result → Shared → Prop} {S l : Addr} {items : Array Value} {xs : List Str} (hh : A.handled = none) (hS : s.heap.get? S = some { cls := .type "set", dict := none, data := .set #[] 0 (.fresh 0 0 (!w.params.followText "set-order")) })
    (ht : s.heap.IsList l items) (hne : l ≠ S) (hi : PyProof.Rows.StrsAre items.toList xs) (hn : xs.length < 64)
    (fin : ∀ (h' : Heap) (tk : Nat), Had prog w S xs xs.length h' → (∀ b u, b ≠ S → s.heap.get? b = some u → h'.get? b = some u) → R (.ok (.ret .none)) { s with heap := h', toks := tk }) :
    wpAny (model prog w) A.in1 (Builtin.«set.__init__» ⟨[.ref S, .ref l], []⟩) (fun fin s' => match fin with | .done f => R (.ok f) s' | .again c => c.quiet = true ∧ codeAny (model prog w) A c R s') (fun e s' => R (.error e) s') s := by
  obtain ⟨o, ho, hc, nl, hd⟩ := id ht
  have q1 : s.TypeIs (.ref l) "list" := ⟨o, ho, hc⟩
  have q2 := PySem.F.sub_list_set
  have q3 := PySem.F.sub_list_frozenset
  have q4 : (Value.type "list" == Value.type "dict") = false := by decide
  unfold Builtin.«set.__init__» noKeywords Builtin.Frozenset.updateFrom
  generalize ePI : pyIter = PI
  wp_walk
  subst ePI
  refine wpAny_pyIter_list ht (wpAny_bind (wpAny_runValue ?_))
  have sz : (s.heap.push { cls := .type "list_iterator", data := .fields #[.ref l, .int 0 0] }).objs.size = s.heap.objs.size + 1 := Heap.size_push ..
  have lS : S < s.heap.objs.size := Heap.lt_size hS
  have ll : l < s.heap.objs.size := Heap.lt_size ho
  have len : xs.length = items.size := by rw [← StrsAre.len_eq hi, Array.length_toList]
  have W0 := (Walks.list (prog := prog) (w := w) (A := A.in1.in1) (by simpa using hh) s.heap.objs.size l (Nat.ne_of_lt ll) items).toS
  rw [← len] at W0
  have nf : S ∉ [s.heap.objs.size, l] := fun m => by
    rcases List.mem_cons.mp m with e | e
    · exact absurd (e ▸ lS) (Nat.lt_irrefl _)
    · exact hne (List.mem_singleton.mp e).symm
  have M0 : Had prog w S xs 0 (s.heap.push { cls := .type "list_iterator", data := .fields #[.ref l, .int 0 0] }) := ⟨(#[], 0, SetTable.fresh 0 0 (!w.params.followText "set-order")), Heap.get?_push_of_some _ hS, Pay.nil _ rfl⟩
  refine turns ⟨W0, fun i v hv => ?_⟩ nf hn xs.length 0 { s with heap := s.heap.push { cls := .type "list_iterator", data := .fields #[.ref l, .int 0 0] } } (Nat.zero_add _) ⟨⟨_, Heap.get?_push_size _ rfl, rfl, rfl⟩, ht.push _⟩ M0 fun s2 mv m => ?_
  · obtain ⟨t, e⟩ := SS.strs_at hi i v (by rw [Array.getElem?_toList]; exact hv)
    have hx : i < xs.length := by rw [len]; exact (Array.getElem?_eq_some_iff.mp hv).1
    exact ⟨xs[i], t, List.getElem?_eq_getElem hx, by rw [e, List.getD_eq_getElem?_getD, List.getElem?_eq_getElem hx]; rfl⟩
  · obtain ⟨h2, g2, d2, t2, o2⟩ := s2
    cases (show g2 = s.gens from mv.gens)
    cases (show d2 = s.drawn from mv.drawn)
    cases (show o2 = s.os from mv.os)
    refine wpAny_pure (wpAny_pure (fin h2 t2 m fun b u nb e => mv.heap b u (fun q => ?_) (Heap.get?_push_of_some _ e)))
    rcases List.mem_cons.mp q with q | q
    · exact nb q
    · have := Heap.lt_size e
      rw [List.mem_singleton.mp q] at this
      exact Nat.lt_irrefl _ this
/-- set(x), over what the new set begins with, the table's order known -/
theorem set_led {x : Value} {Q : Value → Shared → Prop} (go : wpAny (model prog w) A.in1.in1 (Builtin.«set.__init__» ⟨[.ref s.heap.objs.size, x], []⟩)
      (fun fin s' => match fin with | .done f => wants (fun r s2 => r = .none ∧ s2.TypeIs (.ref s.heap.objs.size) "set" ∧ Q (.ref s.heap.objs.size) s2) E (.ok f) s' | .again c => c.quiet = true ∧ codeAny (model prog w) A.in1 c (wants (fun r s2 => r = .none ∧ s2.TypeIs (.ref s.heap.objs.size) "set" ∧ Q (.ref s.heap.objs.size) s2) E) s')
      (fun e s' => wants (fun r s2 => r = .none ∧ s2.TypeIs (.ref s.heap.objs.size) "set" ∧ Q (.ref s.heap.objs.size) s2) E (.error e) s')
      { s with heap := s.heap.push { cls := .type "set", dict := none, data := .set #[] 0 (.fresh 0 0 (!w.params.followText "set-order")) } }) :
    wpAny (model prog w) A (call (.type "set") [x]) Q E s := by
  have k1 := PySem.F.called_set
  obtain ⟨c, tl, k2⟩ := k1.mro
  have k3 := k1.made
  have k4 := k1.sub
  have k5 := k1.notType
  have k6 := k1.canCreate
  have k7 := PySem.F.typeCall_set_1 x
  refine wpAny_call (codeAny_of_tree (wpAny_pure ⟨Code.quiet_builtin _ (by decide +kernel), codeAny_builtin PySem.F.entry_type_call ?_⟩))
  rw [Around.under_plain (weight_type_call_type "set" [x] []) rfl]
  repeat (any_goals (first | assumption | wp_step))
  refine codeAny_mono (code_set_led1 x (E := E) (Q₁ := fun y s1 => y = .ref s.heap.objs.size ∧ s1 = { s with heap := s.heap.push { cls := .type "set", dict := none, data := .set #[] 0 (.fresh 0 0 (!w.params.followText "set-order")) } }) ⟨rfl, rfl⟩) fun r s1 hr => ?_
  match r, hr with
  | .error e, hr => exact hr
  | .ok (.ret y), hr =>
    obtain ⟨rfl, rfl⟩ := hr
    have k8 := k1.init.lookup
    have k9 := k1.init.bind (.ref s.heap.objs.size)
    have ty : Shared.TypeIs { s with heap := s.heap.push { cls := .type "set", dict := none, data := .set #[] 0 (.fresh 0 0 (!w.params.followText "set-order")) } } (.ref s.heap.objs.size) "set" := ⟨_, Heap.get?_push_size _ rfl, rfl⟩
    repeat (any_goals (first | assumption | wp_step))
    refine codeAny_mono (codeAny_call_builtin k1.init.plain PySem.F.entry_set_init (check_set_init_1 ty go)) fun r2 s2 h2 => ?_
    match r2, h2 with
    | .error e, h2 => exact h2
    | .ok (.ret y), h2 =>
      obtain ⟨rfl, ty2, q⟩ := h2
      repeat (any_goals (first | assumption | wp_step))
/-- set(t) of a list of texts -/
theorem set_of_list {l : Addr} {items : Array Value} {xs : List Str} {Q : Value → Shared → Prop} (hh : A.handled = none) (hl : s.heap.IsList l items) (hi : PyProof.Rows.StrsAre items.toList xs) (hn : xs.length < 64)
    (q : ∀ (h' : Heap) (tk : Nat), Had prog w s.heap.objs.size xs xs.length h' → (∀ b u, s.heap.get? b = some u → h'.get? b = some u) → Q (.ref s.heap.objs.size) { s with heap := h', toks := tk }) :
    wpAny (model prog w) A (call (.type "set") [.ref l]) Q E s := by
  obtain ⟨o, ho, hc, hd⟩ := id hl
  have lt := Heap.lt_size ho
  refine set_led (init_list (A := A.in1) (by simpa using hh) (Heap.get?_push_size _ rfl) (hl.push _) (Nat.ne_of_lt lt) hi hn fun h' tk m k => ⟨rfl, ?_, q h' tk m fun b u e => k b u (Nat.ne_of_lt (Heap.lt_size e)) (Heap.get?_push_of_some _ e)⟩)
  obtain ⟨D, e, _⟩ := m
  exact ⟨_, e, rfl⟩
/-- sorted(s) of such a set -/
theorem sorted_had {a : Addr} {xs : List Str} {Q : Value → Shared → Prop} (m : Had prog w a xs xs.length s.heap) (hh : A.handled = none) (hn : xs.length < 64)
    (q : ∀ s' p (out : Array Value) (c : Nat) (ys : List Str), (∀ b o, s.heap.get? b = some o → s'.heap.get? b = some o) → s'.gens = s.gens → s'.os = s.os → s.heap.objs.size ≤ p →
      s'.heap.get? p = some (seqObj "list" out c) → StrsAre out.toList ys → sortedS ys = true → ys.Nodup → (∀ k, k ∈ ys ↔ k ∈ xs) → ys.length ≤ xs.length → Q (.ref p) s') :
    wpAny (model prog w) A (call (.builtin "sorted") [.ref a]) Q E s := by
  obtain ⟨⟨es, ep, t⟩, ho, F⟩ := m
  rw [List.take_length] at F
  have dn := dd_nodup xs [] List.nodup_nil
  have dm : ∀ k, k ∈ dd xs [] ↔ k ∈ xs := fun k => by rw [dd_mem]; simp
  have dl := dd_len xs []
  simp only [List.length_nil, Nat.add_zero] at dl
  generalize dd xs [] = l at F dn dm dl
  have sz : es.size = l.length := F.ok.sz
  refine Calls.call_function_entry kind_sorted plain_sorted entry_sorted (args_sorted1 _) ?_
  unfold Builtin.«sorted»
  refine wpAny_bind (m := checkCount "sorted" 1 1 _) (wpAny_pure ?_)
  refine wpAny_bind (collect_set (A := A.in1) hh ⟨_, ho, rfl, rfl⟩ F.ok.fit (by show es.size < scanBound; unfold scanBound; omega) F.ris F.led fun s1 vs k1 hz g1 o1 pm => ?_)
  have vl : vs.length = l.length := by rw [pm.length_eq, List.length_map, Array.length_toList]; exact sz
  have hI : ∀ (vs : List Value), (∀ v ∈ vs, ∃ k u, v = Value.str k u) → StrsAre vs (vs.map fun v => tx (0, v)) := by
    intro vs
    induction vs with
    | nil => exact fun _ => .nil
    | cons v r ih =>
      intro h
      obtain ⟨k, u, rfl⟩ := h v List.mem_cons_self
      exact .cons k u (ih fun v m => h v (List.mem_cons_of_mem _ m))
  have hS := hI vs fun v m => by
    obtain ⟨e, he, q⟩ := List.mem_map.mp (pm.mem_iff.mp m)
    obtain ⟨k, u, z⟩ := F.str e he
    exact ⟨k, u, by rw [← q]; exact z⟩
  have pt : (vs.map fun v => tx (0, v)).Perm l := by
    have q := pm.map fun v => tx (0, v)
    rw [List.map_map] at q
    exact q.trans F.txs
  generalize (vs.map fun v => tx (0, v)) = zs at hS pt
  refine wpAny_bind (wpAny_newList ?_ (by rw [vl, sizeLine_eq]; omega))
  have hoL : (s1.heap.push (seqObj "list" vs.toArray 0)).get? s1.heap.objs.size = some (seqObj "list" vs.toArray 0) := Heap.get?_push_size _ rfl
  refine wpAny_bind (wpAny_holding (wpAny_call_entry slot_list_sort ⟨_, hoL, rfl⟩ entry_list_sort (list_sort_treeK strKind_oneLt hoL hS.keysOf (fun v₁ v₂ rest e => keyKind_strs (by rw [← e]; exact hS)) (by rw [vl]; omega) fun st' a1 a2 => ⟨_, rfl, ?_⟩) (args_list_sort _)))
  obtain ⟨ys, y1, y2, y3⟩ := sorted_out_str hS a1 a2
  obtain ⟨c, hc⟩ := sortedHeap_at (vs := vs) (out := (arrOf st').map (·.2)) hoL
  have pn : ys.Perm l := y2.trans pt
  refine wpAny_pure ⟨_, rfl, q _ s1.heap.objs.size _ c ys (fun b u e => ?_) g1 o1 hz hc y1 y3 (pn.nodup_iff.mpr dn) (fun k => by rw [pn.mem_iff, dm]) (by rw [pn.length_eq]; exact dl)⟩
  have z := k1 b u e
  have hlt := Heap.lt_size z
  show (sortedHeap (s1.heap.push (seqObj "list" vs.toArray 0)) s1.heap.objs.size vs _).get? b = some u
  rw [sortedHeap_old (Nat.ne_of_lt hlt) (by rw [size_push']; exact Nat.lt_succ_of_lt hlt)]
  exact Heap.get?_push_of_some _ z
end
end TdSs
namespace Td
open PySem PySem.Spec PyProof.Rows L2 PySem.Froz
section
variable {X : Cx}
/-- sorted(set(t)), t a list of texts -/
def tSortSet (K : PySem.W.Frag) (t : TE) : TE := fun σ H Q => t σ H fun x H1 => ∃ (l : Addr) (xs : List Str), x = .ref l ∧ SqL K H1 l (xs.map V.str) ∧ xs.length < 64 ∧
  ∀ (ys : List Str) (p : Addr), sortedS ys = true → ys.Nodup → (∀ k, k ∈ ys ↔ k ∈ xs) → ys.length ≤ xs.length → H1 p = none → Q (.ref p) (upd H1 p (.lst (ys.map V.str)))
theorem pe_sortSet {a : Expr} {t : TE} {p p2 q pos : Pos} (hc : X.calm = true) (g1 : Gl X "sorted") (m1 : X.mg "sorted" = none) (g2 : Gl X "set") (m2 : X.mg "set" = none) (ha : PE X a t)
    (na : starEach [a] X.env = (false, eval a X.env) :: starEach [] X.env := by rfl) (no : starEach [.Call (.Name "set" p2) [a] [] q] X.env = (false, eval (.Call (.Name "set" p2) [a] [] q) X.env) :: starEach [] X.env := by rfl) :
    PE X (.Call (.Name "sorted" p) [.Call (.Name "set" p2) [a] [] q] [] pos) (tSortSet X.K t) := by
  refine ⟨fun pins s σ H Q I h => wpAny_Call_Name_kw (ld_blt I g1 m1 boot_sorted (PyProof.Rows.callWith_builtin1 (PyProof.Rows.args_cons (wpAny_Call_Name_kw (ld_blt I g2 m2 boot_set (PyProof.Rows.callWith_type1 (PyProof.Rows.args_cons (thn (ha.run pins s σ H _ I h) fun v s1 ⟨x, H1, I1, r1, l, xs, ex, hq, hn, k⟩ => PyProof.Rows.args_nil ?_) na) na rfl))) no) no rfl))⟩
  subst ex
  cases r1
  obtain ⟨its, rv, hl, _⟩ := I1.list hq
  refine TdSs.set_of_list (I1.ok.hd hc) hl.isList (xs := xs) (by simpa using rv.strs) hn fun h' tk m kp => PyProof.Rows.args_nil ?_
  have J : Inv X pins σ H1 { s1 with heap := h', toks := tk } := I1.kept kp
  refine TdSs.sorted_had m (J.ok.hd hc) hn fun s' p out c ys k2 g o hp hg hi hs nd hm hl2 => ?_
  have hlen : (ys.map V.str).length ≤ sizeLine := by rw [List.length_map, sizeLine_eq]; omega
  have hn : H1 p = none := J.hok.fresh hp
  have J2 : Inv X pins σ (upd H1 p (.lst (ys.map V.str))) { ({ s1 with heap := h', toks := tk } : Shared) with heap := s'.heap, gens := s'.gens, drawn := s'.drawn, toks := s'.toks } :=
    J.call (ch := []) (Un.laid k2 hp hn) (J.hok.laid k2 hp ⟨hlen, out.toList, c, vals_of_strs hi, hg⟩) (by rw [g]; exact J.bare) (fun _ z => nomatch z)
  have e : s' = { ({ s1 with heap := h', toks := tk } : Shared) with heap := s'.heap, gens := s'.gens, drawn := s'.drawn, toks := s'.toks } := by
    cases s'
    cases s1
    cases o
    rfl
  rw [e]
  exact ⟨.ref p, _, J2, rfl, k ys p hs nd hm hl2 hn⟩
end
end Td
/-! A datum in a list of data. -/
namespace Td
open PySem PySem.Spec PyProof.Rows L2
def hasD (d : PyData) (ds : List PyData) : Bool := ds.any fun z => PyData.eqv z d
def rInDL (K : PySem.W.Frag) (neg : Bool) : R2 := fun x y H Q => ∃ d ds, Dp K H x d ∧ Dp K H y (.list ds) ∧ SeqAt.shaped d = true ∧ SeqAt.shaped (.list ds) = true ∧ Q (.bl (if neg then !hasD d ds else hasD d ds)) H
section
variable {X : Cx}
theorem op_inDL (hu : X.A.units + 65 < cLine) : OpR X (compareOp .In) (rInDL X.K false) := by
  intro pins s σ H x y v u Q I rx ry ⟨d, ds, h1, h2, e1, e2, q⟩
  obtain ⟨la, a⟩ := Dp.reads I d x v h1 rx
  obtain ⟨lb, b⟩ := Dp.reads I (.list ds) y u h2 ry
  exact SeqAt.in_list_reads b a (SeqAt.canLay_of_shaped e2) (SeqAt.canLay_of_shaped e1) (room_in_shaped e1 hu) ⟨.bl _, H, I, rfl, q⟩
theorem op_ninDL (hu : X.A.units + 65 < cLine) : OpR X (compareOp .NotIn) (rInDL X.K true) := by
  intro pins s σ H x y v u Q I rx ry ⟨d, ds, h1, h2, e1, e2, q⟩
  obtain ⟨la, a⟩ := Dp.reads I d x v h1 rx
  obtain ⟨lb, b⟩ := Dp.reads I (.list ds) y u h2 ry
  exact SeqAt.notIn_list_reads b a (SeqAt.canLay_of_shaped e2) (SeqAt.canLay_of_shaped e1) (room_in_shaped e1 hu) ⟨.bl _, H, I, rfl, q⟩
theorem op_ninDT (hu : X.A.units + 65 < cLine) : OpR X (compareOp .NotIn) (rInDT X.K true) := by
  intro pins s σ H x y v u Q I rx ry ⟨d, ds, h1, h2, e1, e2, q⟩
  obtain ⟨la, a⟩ := Dp.reads I d x v h1 rx
  obtain ⟨lb, b⟩ := Dp.reads I (.tuple ds) y u h2 ry
  exact SeqAt.notIn_tuple_reads b a (SeqAt.canLay_of_shaped e2) (SeqAt.canLay_of_shaped e1) (room_in_shaped e1 hu) ⟨.bl _, H, I, rfl, q⟩
end
end Td
/-! What a true run does. -/
namespace Td
open PySem PySem.Spec PyProof.Rows L2
abbrev Env := List (Str × Str)
def kv (L : Env) : List (Key × V) := L.map fun p => (.inr p.1, V.str p.2)
def getE (L : Env) (k : Str) : Option Str := (L.find? fun p => decide (p.1 = k)).map (·.2)
def putE (L : Env) (k v : Str) : Env := if (L.any fun p => decide (p.1 = k)) = true then L.map (fun p => if p.1 = k then (p.1, v) else p) else L ++ [(k, v)]
def sdE (L : Env) (k v : Str) : Env := if (getE L k).isSome = true then L else putE L k v
theorem kv_len (L : Env) : (kv L).length = L.length := List.length_map _
theorem inr_iff (a b : Str) : (Sum.inr a : Key) = .inr b ↔ a = b := ⟨fun h => Sum.inr.inj h, fun h => by rw [h]⟩
theorem kv_get (L : Env) (k : Str) : valV (kv L) (.inr k : Key) = (getE L k).map V.str := by
  unfold valV getE kv
  induction L with
  | nil => rfl
  | cons p r ih =>
    rw [List.map_cons, List.find?_cons, List.find?_cons]
    by_cases h : p.1 = k
    · simp [h]
    · have h2 : ¬ ((Sum.inr p.1 : Key) = .inr k) := fun e => h (Sum.inr.inj e)
      simp only [decide_eq_false h, decide_eq_false h2]
      exact ih
theorem kv_any (L : Env) (k : Str) : ((kv L).any fun q => decide (q.1 = (.inr k : Key))) = L.any fun p => decide (p.1 = k) := by
  unfold kv
  induction L with
  | nil => rfl
  | cons p r ih =>
    rw [List.map_cons, List.any_cons, List.any_cons, ih]
    congr 1
    exact decide_eq_decide.mpr (inr_iff _ _)
theorem kv_put (L : Env) (k v : Str) : putK (kv L) (.inr k : Key) (.str v) = kv (putE L k v) := by
  unfold putK putE
  rw [kv_any]
  by_cases h : (L.any fun p => decide (p.1 = k)) = true
  · rw [if_pos h, if_pos h]
    unfold kv
    rw [List.map_map, List.map_map]
    refine List.map_congr_left fun p _ => ?_
    show (if (Sum.inr p.1 : Key) = .inr k then _ else _) = _
    by_cases e : p.1 = k
    · have e2 : (Sum.inr p.1 : Key) = .inr k := by rw [e]
      rw [if_pos e2]
      show _ = ((Sum.inr (if p.1 = k then (p.1, v) else p).1 : Key), V.str (if p.1 = k then (p.1, v) else p).2)
      rw [if_pos e]
    · have e2 : ¬ (Sum.inr p.1 : Key) = .inr k := fun h => e (Sum.inr.inj h)
      rw [if_neg e2]
      show _ = ((Sum.inr (if p.1 = k then (p.1, v) else p).1 : Key), V.str (if p.1 = k then (p.1, v) else p).2)
      rw [if_neg e]
  · rw [if_neg h, if_neg h]
    unfold kv
    rw [List.map_append]
    rfl
theorem putE_len (L : Env) (k v : Str) : (putE L k v).length ≤ L.length + 1 := by
  unfold putE
  split
  · rw [List.length_map]; omega
  · rw [List.length_append]; exact Nat.le_refl _
theorem sdE_len (L : Env) (k v : Str) : (sdE L k v).length ≤ L.length + 1 := by
  unfold sdE
  split
  · omega
  · exact putE_len ..
theorem getE_any (k : Str) : ∀ L : Env, (L.any fun p => decide (p.1 = k)) = (getE L k).isSome
  | [] => rfl
  | p :: r => by
    rw [List.any_cons]
    unfold getE
    rw [List.find?_cons]
    by_cases e : p.1 = k
    · simp [e]
    · simp only [decide_eq_false e, Bool.false_or]
      exact getE_any k r
theorem getE_cons (p : Str × Str) (r : Env) (k : Str) : getE (p :: r) k = if p.1 = k then some p.2 else getE r k := by
  unfold getE
  rw [List.find?_cons]
  by_cases e : p.1 = k
  · simp [e]
  · simp [e]
theorem getE_put (L : Env) (k v j : Str) : getE (putE L k v) j = if j = k then some v else getE L j := by
  unfold putE
  split
  · rename_i h
    induction L with
    | nil => simp at h
    | cons p r ih =>
      rw [List.map_cons, getE_cons, getE_cons]
      by_cases e : p.1 = k
      · rw [if_pos e]
        by_cases ej : j = k
        · subst ej; simp [e]
        · have : ¬ p.1 = j := fun h => ej (by rw [← h, e])
          rw [if_neg this, if_neg this, if_neg ej]
          by_cases hr : (r.any fun p => decide (p.1 = k)) = true
          · rw [ih hr, if_neg ej]
          · have hr2 : r.map (fun p => if p.1 = k then (p.1, v) else p) = r := by
              conv => rhs; rw [← List.map_id r]
              refine List.map_congr_left fun q hq => ?_
              rw [if_neg]
              · rfl
              · intro e2
                exact hr (List.any_eq_true.mpr ⟨q, hq, decide_eq_true e2⟩)
            rw [hr2]
      · rw [if_neg e]
        have hr : (r.any fun p => decide (p.1 = k)) = true := by
          rw [List.any_cons, decide_eq_false e, Bool.false_or] at h
          exact h
        rw [ih hr]
        by_cases ej : p.1 = j
        · rw [if_pos ej, if_pos ej, if_neg (fun h => e (by rw [ej, h]))]
        · rw [if_neg ej, if_neg ej]
  · rename_i h
    have hn : getE L k = none := by
      rw [getE_any] at h
      cases e : getE L k with
      | none => rfl
      | some z => rw [e] at h; exact absurd rfl h
    induction L with
    | nil => rw [List.nil_append, getE_cons]; by_cases ej : j = k
             · subst ej; simp
             · rw [if_neg (fun e => ej e.symm), if_neg ej]
    | cons p r ih =>
      rw [List.cons_append, getE_cons, getE_cons]
      rw [getE_cons] at hn
      by_cases e : p.1 = k
      · rw [if_pos e] at hn; cases hn
      · rw [if_neg e] at hn
        have hr : ¬ (r.any fun p => decide (p.1 = k)) = true := by rw [getE_any, hn]; simp
        rw [ih hr hn]
        by_cases ej : p.1 = j
        · rw [if_pos ej, if_pos ej, if_neg (fun h => e (by rw [ej, h]))]
        · rw [if_neg ej, if_neg ej]
/-! ### a run -/
structure RS where
  slots : Env
  noted : Env
  peeked : Env
  said : List Str
  written : Env
  given : Str
def RS.word (st : RS) (d s : Str) : Str := (getE st.slots s).getD d
mutual
def runR (kn : Str → Str) (d : Str) : Row → RS → RS × Bool
  | .rd pk c s, st => ({ st with slots := putE st.slots s (kn c), noted := (if pk then st.noted else sdE st.noted c (kn c)), peeked := (if pk then sdE st.peeked c (kn c) else st.peeked) }, false)
  | .put s u, st => ({ st with slots := putE st.slots s u }, false)
  | .give s, st => ({ st with given := st.word d s }, true)
  | .say s, st => ({ st with said := st.said ++ [st.word d s] }, false)
  | .wr c s, st => ({ st with written := st.written ++ [(c, st.word d s)] }, false)
  | .ite s u y n, st => if st.word d s = u then runRs kn d y st else runRs kn d n st
def runRs (kn : Str → Str) (d : Str) : List Row → RS → RS × Bool
  | [], st => (st, false)
  | r :: rs, st => if (runR kn d r st).2 = true then ((runR kn d r st).1, true) else runRs kn d rs (runR kn d r st).1
end
theorem runRs_yes {kn : Str → Str} {d : Str} {r : Row} {st : RS} (rs : List Row) (h : (runR kn d r st).2 = true) : runRs kn d (r :: rs) st = ((runR kn d r st).1, true) := by simp only [runRs, if_pos h]
theorem runRs_no {kn : Str → Str} {d : Str} {r : Row} {st : RS} (rs : List Row) (h : ¬ (runR kn d r st).2 = true) : runRs kn d (r :: rs) st = runRs kn d rs (runR kn d r st).1 := by simp only [runRs, if_neg h]
theorem runRs_append (kn : Str → Str) (d : Str) : ∀ (rs ts : List Row) (st : RS), runRs kn d (rs ++ ts) st = if (runRs kn d rs st).2 = true then runRs kn d rs st else runRs kn d ts (runRs kn d rs st).1
  | [], ts, st => by
    show runRs kn d ts st = _
    simp [runRs]
  | r :: rs, ts, st => by
    show runRs kn d (r :: (rs ++ ts)) st = _
    by_cases h : (runR kn d r st).2 = true
    · simp only [runRs_yes _ h, if_true]
    · simp only [runRs_no _ h]
      exact runRs_append kn d rs ts _
theorem runRs_next {kn : Str → Str} {d : Str} {rs : List Row} {st : RS} {i : Nat} {r : Row} (h : rs[i]? = some r) (hf : (runRs kn d (rs.take i) st).2 = false) :
    runRs kn d (rs.take (i + 1)) st = runR kn d r (runRs kn d (rs.take i) st).1 := by
  rw [take_more h, runRs_append, hf]
  simp only [runRs, if_neg (Bool.false_ne_true)]
  by_cases h2 : (runR kn d r (runRs kn d (rs.take i) st).1).2 = true
  · rw [if_pos h2]
    exact Prod.ext rfl h2.symm
  · rw [if_neg h2]
    exact Prod.ext rfl (by simpa using h2)
theorem runRs_stop {kn : Str → Str} {d : Str} {rs : List Row} {st : RS} {i : Nat} {r : Row} (h : rs[i]? = some r) (hf : (runRs kn d (rs.take i) st).2 = false)
    (ht : (runR kn d r (runRs kn d (rs.take i) st).1).2 = true) : runRs kn d rs st = runR kn d r (runRs kn d (rs.take i) st).1 := by
  have e : rs = rs.take (i + 1) ++ rs.drop (i + 1) := (List.take_append_drop _ _).symm
  have e2 := runRs_next h hf
  rw [e, runRs_append, ← e, e2, if_pos ht]
/-- no list of the run is long -/
structure RS.Few (st : RS) (n : Nat) : Prop where
  sl : st.slots.length ≤ n
  no : st.noted.length ≤ n
  pe : st.peeked.length ≤ n
  sa : st.said.length ≤ n
  wr : st.written.length ≤ n
theorem RS.Few.mono {st : RS} {n m : Nat} (h : st.Few n) (l : n ≤ m) : st.Few m := ⟨Nat.le_trans h.sl l, Nat.le_trans h.no l, Nat.le_trans h.pe l, Nat.le_trans h.sa l, Nat.le_trans h.wr l⟩
mutual
theorem few_R (kn : Str → Str) (d : Str) : ∀ (r : Row) (st : RS) (n : Nat), st.Few n → (runR kn d r st).1.Few (n + Td.cnt r)
  | .rd pk c s, st, n, h => by
    have h1 := putE_len st.slots s (kn c)
    have h2 := sdE_len st.noted c (kn c)
    have h3 := sdE_len st.peeked c (kn c)
    have a := h.sl; have b := h.no; have c' := h.pe; have d' := h.sa; have e := h.wr
    cases pk <;> simp only [runR, Td.cnt] <;> refine ⟨?_, ?_, ?_, ?_, ?_⟩ <;> simp <;> omega
  | .put s u, st, n, h => by
    have h1 := putE_len st.slots s u
    have a := h.sl; have b := h.no; have c' := h.pe; have d' := h.sa; have e := h.wr
    simp only [runR, Td.cnt]; refine ⟨?_, ?_, ?_, ?_, ?_⟩ <;> simp <;> omega
  | .give s, st, n, h => by
    have a := h.sl; have b := h.no; have c' := h.pe; have d' := h.sa; have e := h.wr
    simp only [runR, Td.cnt]; refine ⟨?_, ?_, ?_, ?_, ?_⟩ <;> simp <;> omega
  | .say s, st, n, h => by
    have a := h.sl; have b := h.no; have c' := h.pe; have d' := h.sa; have e := h.wr
    simp only [runR, Td.cnt]; refine ⟨?_, ?_, ?_, ?_, ?_⟩ <;> simp <;> omega
  | .wr c s, st, n, h => by
    have a := h.sl; have b := h.no; have c' := h.pe; have d' := h.sa; have e := h.wr
    simp only [runR, Td.cnt]; refine ⟨?_, ?_, ?_, ?_, ?_⟩ <;> simp <;> omega
  | .ite s u y m, st, n, h => by
    simp only [runR, Td.cnt]
    split
    · exact (few_Rs kn d y st n h).mono (by omega)
    · exact (few_Rs kn d m st n h).mono (by omega)
theorem few_Rs (kn : Str → Str) (d : Str) : ∀ (rs : List Row) (st : RS) (n : Nat), st.Few n → (runRs kn d rs st).1.Few (n + cnts rs)
  | [], st, n, h => by simp only [runRs]; exact h.mono (Nat.le_add_right _ _)
  | r :: rs, st, n, h => by
    have h1 := few_R kn d r st n h
    simp only [runRs, cnts]
    split
    · exact h1.mono (by omega)
    · exact (few_Rs kn d rs _ _ h1).mono (by omega)
end
/-! ### the run's object -/
structure RA where
  ra : Addr
  kd : Addr
  ps : Addr
  pn : Addr
  pp : Addr
  pd : Addr
  pw : Addr
  d : Str
def RA.fldsV (A : RA) (v : V) : List (Str × V) := [("noted", .ref A.pn), ("peeked", .ref A.pp), ("said", .ref A.pd), ("written", .ref A.pw), ("given", v), ("default", .str A.d), ("known", .ref A.kd), ("slots", .ref A.ps)]
def RA.flds (A : RA) (g : Str) : List (Str × V) := A.fldsV (.str g)
def wrD (p : Str × Str) : PyData := .tuple [.str p.1, .str p.2]
structure RunAt (K : PySem.W.Frag) (C : Addr) (A : RA) (H0 H : Hp) (st : RS) : Prop where
  same : Same H0 H
  f0 : H0 A.ra = none
  f1 : H0 A.ps = none
  f2 : H0 A.pn = none
  f3 : H0 A.pp = none
  f4 : H0 A.pd = none
  f5 : H0 A.pw = none
  n1 : A.ps ≠ A.pn
  n2 : A.ps ≠ A.pp
  n3 : A.pn ≠ A.pp
  n4 : A.pd ≠ A.pw
  ob : ∃ dx, H A.ra = some (.ins C dx (A.flds st.given))
  sl : H A.ps = some (.dK (kv st.slots))
  no : H A.pn = some (.dK (kv st.noted))
  pe : H A.pp = some (.dK (kv st.peeked))
  sa : H A.pd = some (.lst (st.said.map V.str))
  wr : ∃ xs, H A.pw = some (.lst xs) ∧ TnAll K H xs (st.written.map wrD)
section
variable {K : PySem.W.Frag} {C : Addr} {A : RA} {H0 H H' : Hp} {st : RS}
theorem own_same {H0 H : Hp} {p : Addr} {o : HO} (k : Same H0 H) (h : H0 p = none) : Same H0 (upd H p o) := fun b u e => by
  rw [upd_ne (ne_of_none e h)]; exact k b u e
theorem RunAt.go (h : RunAt K C A H0 H st) (s : Same H H') : RunAt K C A H0 H' st := by
  obtain ⟨dx, e⟩ := h.ob
  obtain ⟨xs, e1, e2⟩ := h.wr
  exact ⟨h.same.trans s, h.f0, h.f1, h.f2, h.f3, h.f4, h.f5, h.n1, h.n2, h.n3, h.n4, ⟨dx, s _ _ e⟩, s _ _ h.sl, s _ _ h.no, s _ _ h.pe, s _ _ h.sa, ⟨xs, s _ _ e1, TnAll.keep (TK.of_same s) e2⟩⟩
theorem RunAt.slots (h : RunAt K C A H0 H st) (L : Env) : RunAt K C A H0 (upd H A.ps (.dK (kv L))) { st with slots := L } := by
  obtain ⟨dx, e⟩ := h.ob
  obtain ⟨xs, e1, e2⟩ := h.wr
  exact ⟨own_same h.same h.f1, h.f0, h.f1, h.f2, h.f3, h.f4, h.f5, h.n1, h.n2, h.n3, h.n4, ⟨dx, by rw [upd_ne (ne_of e h.sl (by intro z; cases z))]; exact e⟩, upd_same, by rw [upd_ne (Ne.symm h.n1)]; exact h.no, by rw [upd_ne (Ne.symm h.n2)]; exact h.pe,
    by rw [upd_ne (ne_of h.sa h.sl (by intro z; cases z))]; exact h.sa, ⟨xs, by rw [upd_ne (ne_of e1 h.sl (by intro z; cases z))]; exact e1, TnAll.keep (TK.upd (by rw [h.sl]; trivial)) e2⟩⟩
theorem RunAt.noted (h : RunAt K C A H0 H st) (L : Env) : RunAt K C A H0 (upd H A.pn (.dK (kv L))) { st with noted := L } := by
  obtain ⟨dx, e⟩ := h.ob
  obtain ⟨xs, e1, e2⟩ := h.wr
  exact ⟨own_same h.same h.f2, h.f0, h.f1, h.f2, h.f3, h.f4, h.f5, h.n1, h.n2, h.n3, h.n4, ⟨dx, by rw [upd_ne (ne_of e h.no (by intro z; cases z))]; exact e⟩, by rw [upd_ne h.n1]; exact h.sl, upd_same, by rw [upd_ne (Ne.symm h.n3)]; exact h.pe,
    by rw [upd_ne (ne_of h.sa h.no (by intro z; cases z))]; exact h.sa, ⟨xs, by rw [upd_ne (ne_of e1 h.no (by intro z; cases z))]; exact e1, TnAll.keep (TK.upd (by rw [h.no]; trivial)) e2⟩⟩
theorem RunAt.peeked (h : RunAt K C A H0 H st) (L : Env) : RunAt K C A H0 (upd H A.pp (.dK (kv L))) { st with peeked := L } := by
  obtain ⟨dx, e⟩ := h.ob
  obtain ⟨xs, e1, e2⟩ := h.wr
  exact ⟨own_same h.same h.f3, h.f0, h.f1, h.f2, h.f3, h.f4, h.f5, h.n1, h.n2, h.n3, h.n4, ⟨dx, by rw [upd_ne (ne_of e h.pe (by intro z; cases z))]; exact e⟩, by rw [upd_ne h.n2]; exact h.sl, by rw [upd_ne h.n3]; exact h.no, upd_same,
    by rw [upd_ne (ne_of h.sa h.pe (by intro z; cases z))]; exact h.sa, ⟨xs, by rw [upd_ne (ne_of e1 h.pe (by intro z; cases z))]; exact e1, TnAll.keep (TK.upd (by rw [h.pe]; trivial)) e2⟩⟩
theorem RunAt.say (h : RunAt K C A H0 H st) (L : List Str) : RunAt K C A H0 (upd H A.pd (.lst (L.map V.str))) { st with said := L } := by
  obtain ⟨dx, e⟩ := h.ob
  obtain ⟨xs, e1, e2⟩ := h.wr
  exact ⟨own_same h.same h.f4, h.f0, h.f1, h.f2, h.f3, h.f4, h.f5, h.n1, h.n2, h.n3, h.n4, ⟨dx, by rw [upd_ne (ne_of e h.sa (by intro z; cases z))]; exact e⟩, by rw [upd_ne (ne_of h.sl h.sa (by intro z; cases z))]; exact h.sl, by rw [upd_ne (ne_of h.no h.sa (by intro z; cases z))]; exact h.no,
    by rw [upd_ne (ne_of h.pe h.sa (by intro z; cases z))]; exact h.pe, upd_same, ⟨xs, by rw [upd_ne (Ne.symm h.n4)]; exact e1, TnAll.keep (TK.upd (by rw [h.sa]; trivial)) e2⟩⟩
theorem RunAt.write (h : RunAt K C A H0 H st) {xs : List V} {L : Env} (e1 : H A.pw = some (.lst xs)) {ys : List V} (e2 : TnAll K H ys (L.map wrD)) : RunAt K C A H0 (upd H A.pw (.lst ys)) { st with written := L } := by
  obtain ⟨dx, e⟩ := h.ob
  exact ⟨own_same h.same h.f5, h.f0, h.f1, h.f2, h.f3, h.f4, h.f5, h.n1, h.n2, h.n3, h.n4, ⟨dx, by rw [upd_ne (ne_of e e1 (by intro z; cases z))]; exact e⟩, by rw [upd_ne (ne_of h.sl e1 (by intro z; cases z))]; exact h.sl, by rw [upd_ne (ne_of h.no e1 (by intro z; cases z))]; exact h.no,
    by rw [upd_ne (ne_of h.pe e1 (by intro z; cases z))]; exact h.pe, by rw [upd_ne h.n4]; exact h.sa, ⟨ys, upd_same, TnAll.keep (TK.upd (by rw [e1]; trivial)) e2⟩⟩
theorem RunAt.give (h : RunAt K C A H0 H st) (g : Str) {dx : Addr} (e : H A.ra = some (.ins C dx (A.flds st.given))) : RunAt K C A H0 (upd H A.ra (.ins C dx (A.flds g))) { st with given := g } := by
  obtain ⟨xs, e1, e2⟩ := h.wr
  exact ⟨own_same h.same h.f0, h.f0, h.f1, h.f2, h.f3, h.f4, h.f5, h.n1, h.n2, h.n3, h.n4, ⟨dx, upd_same⟩, by rw [upd_ne (ne_of h.sl e (by intro z; cases z))]; exact h.sl, by rw [upd_ne (ne_of h.no e (by intro z; cases z))]; exact h.no,
    by rw [upd_ne (ne_of h.pe e (by intro z; cases z))]; exact h.pe, by rw [upd_ne (ne_of h.sa e (by intro z; cases z))]; exact h.sa, ⟨xs, by rw [upd_ne (ne_of e1 e (by intro z; cases z))]; exact e1, TnAll.keep (TK.upd (by rw [e]; trivial)) e2⟩⟩
end
section
variable (A : RA) (g g' : Str)
theorem fl_default : (A.flds g).lookup ("default" : Str) = some (.str A.d) := by kernel_rfl
theorem fl_known : (A.flds g).lookup ("known" : Str) = some (.ref A.kd) := by kernel_rfl
theorem fl_slots : (A.flds g).lookup ("slots" : Str) = some (.ref A.ps) := by kernel_rfl
theorem fl_noted : (A.flds g).lookup ("noted" : Str) = some (.ref A.pn) := by kernel_rfl
theorem fl_peeked : (A.flds g).lookup ("peeked" : Str) = some (.ref A.pp) := by kernel_rfl
theorem fl_said : (A.flds g).lookup ("said" : Str) = some (.ref A.pd) := by kernel_rfl
theorem fl_written : (A.flds g).lookup ("written" : Str) = some (.ref A.pw) := by kernel_rfl
theorem fl_given : (A.flds g).lookup ("given" : Str) = some (.str g) := by kernel_rfl
theorem fl_none : (A.flds g).lookup ("word_in" : Str) = none := by kernel_rfl
theorem fl_none2 (v : V) : (A.fldsV v).lookup ("parts" : Str) = none := by kernel_rfl
theorem fv_noted (v : V) : (A.fldsV v).lookup ("noted" : Str) = some (.ref A.pn) := by kernel_rfl
theorem fv_peeked (v : V) : (A.fldsV v).lookup ("peeked" : Str) = some (.ref A.pp) := by kernel_rfl
theorem fv_said (v : V) : (A.fldsV v).lookup ("said" : Str) = some (.ref A.pd) := by kernel_rfl
theorem fv_written (v : V) : (A.fldsV v).lookup ("written" : Str) = some (.ref A.pw) := by kernel_rfl
theorem fv_given (v : V) : (A.fldsV v).lookup ("given" : Str) = some v := by kernel_rfl
theorem fl_giveV (v : V) : putF "given" v (A.flds g) = A.fldsV v := by kernel_rfl
theorem fl_give : putF "given" (.str g') (A.flds g) = A.flds g' := by kernel_rfl
end
end Td
/-! dict(zip(t, u)) of two tuples as long as each other. -/
namespace Td
open PySem
section
variable {prog : Program} {w : World} {A : Around} {E : Value → Shared → Prop} {s : Shared} {z TI TO T i1 i2 : Addr} {f : Bool} {oT : Obj} {fp1 fp2 : List Addr} {n1 n2 i : Nat} {P1 P2 : Nat → Value → Prop} {St1 St2 : Nat → Heap → Prop}
/-- the next pair, the one ahead still held -/
theorem held_item {Q : Value → Shared → Prop} (S : ZipSep2 z TI TO i1 i2 fp1 fp2) (D1 : Draws prog w A i1 fp1 n1 P1 St1) (D2 : Draws prog w A i2 fp2 n2 P2 St2)
    (hz : IsZipHeld s.heap z TI TO T f) (hT : s.heap.get? T = some oT) (hTI : IsTupOf2 s.heap TI (.ref i1) (.ref i2)) (u1 : St1 i s.heap) (u2 : St2 i s.heap) (l1 : i < n1) (l2 : i < n2)
    (hQ : ∀ x y h' tk, P1 i x → P2 i y → IsZipHeld h' z TI TO T true → St1 (i + 1) h' → St2 (i + 1) h' → IsTupOf2 h' s.heap.objs.size x y →
      (∀ c o, c ≠ z → c ≠ i1 → c ≠ i2 → s.heap.get? c = some o → h'.get? c = some o) → Q (.ref s.heap.objs.size) { s with heap := h', toks := tk }) :
    wpAny (model prog w) A (Builtin.«zip.__next__» ⟨[.ref z], []⟩) (fun fin s' => ∃ v, fin = .done (.ret v) ∧ Q v s') E s := by
  obtain ⟨h0, gl, dd, t0, ow⟩ := s
  show wpAny _ _ (field (.ref z) 2 >>= _) _ _ _
  refine wpAny_bind (wpAny_field hz rfl (x := .bool false) rfl ?_)
  show wpAny _ _ (field (.ref z) 3 >>= _) _ _ _
  refine wpAny_bind (wpAny_field hz rfl (x := .ref TI) rfl (wpAny_bind (wpAny_seqItems hTI rfl ?_)))
  show wpAny _ _ (Builtin.SmallTypes.ownedTupleIsFree (.ref z) >>= _) _ _ _
  refine wpAny_bind (wpAny_tupleHeld_zip hz hT fun h1 z1 k1 => ?_)
  replace k1 : Heap.SameBut z h0 h1 := k1
  simp only [Bool.false_eq_true, if_false]
  refine wpAny_bind ?_
  rw [← Array.forIn_toList]
  simp only [List.forIn_cons, List.forIn_nil]
  refine wpAny_bind (wpAny_bind (wpAny_holding ?_))
  show wpAny _ _ (Builtin.SmallTypes.nextOf (.ref i1) >>= _) _ _ ⟨h1, gl, dd, t0, ow⟩
  refine wpAny_bind (D1.item i _ _ _ l1 (D1.over u1 k1 S.zf1) fun x h2 t2 px v1 k2 => wpAny_pure (wpAny_pure ?_))
  replace k2 : Heap.SameBut i1 h1 h2 := k2
  refine wpAny_bind (wpAny_bind (wpAny_holding ?_))
  show wpAny _ _ (Builtin.SmallTypes.nextOf (.ref i2) >>= _) _ _ ⟨h2, gl, dd, t2, ow⟩
  refine wpAny_bind (D2.item i _ _ _ l2 (D2.over (D2.over u2 k1 S.zf2) k2 S.sep1_2) fun y h3 t3 py v2 k3 => wpAny_pure (wpAny_pure (wpAny_pure ?_)))
  replace k3 : Heap.SameBut i2 h2 h3 := k3
  show wpAny _ _ (newTuple [x, y] >>= _) _ _ _
  refine wpAny_bind (wpAny_newTuple ?_)
  have up : ∀ c o, c ≠ z → c ≠ i1 → c ≠ i2 → h0.get? c = some o → h3.get? c = some o := fun c o a b d e => k3.extBut _ _ d (k2.extBut _ _ b (k1.extBut _ _ a e))
  have es : h3.objs.size = h0.objs.size := by rw [k3.1, k2.1, k1.1]
  have nw : IsTupOf2 (h3.push { cls := .type "tuple", data := .seq #[x, y] }) h3.objs.size x y := Heap.get?_push_size _ rfl
  refine wpAny_pure ⟨_, rfl, ?_⟩
  rw [es] at nw
  show Q (.ref h3.objs.size) _
  rw [es]
  exact hQ x y _ t3 px py (Heap.get?_push_of_some _ (k3.extBut _ _ S.zi2 (k2.extBut _ _ S.zi1 z1)))
    (D1.frame _ _ _ (D1.over v1 k3 S.sep2_1) fun b _ o e => Heap.get?_push_of_some _ e) (D2.frame _ _ _ v2 fun b _ o e => Heap.get?_push_of_some _ e) nw fun c o a b d e => Heap.get?_push_of_some _ (up c o a b d e)
/-- no pair behind the last, the one ahead still held -/
theorem held_end {Q : Fin → Shared → Prop} (S : ZipSep2 z TI TO i1 i2 fp1 fp2) (D1 : Draws prog w A i1 fp1 n1 P1 St1)
    (hz : IsZipHeld s.heap z TI TO T f) (hT : s.heap.get? T = some oT) (hTI : IsTupOf2 s.heap TI (.ref i1) (.ref i2)) (u1 : St1 n1 s.heap)
    (hE : ∀ h' e, (∀ c o, c ≠ z → c ≠ i1 → s.heap.get? c = some o → h'.get? c = some o) → (∃ o, h'.get? e = some o ∧ o.cls = .type "StopIteration") → E (.ref e) { s with heap := h' }) :
    wpAny (model prog w) A (Builtin.«zip.__next__» ⟨[.ref z], []⟩) Q E s := by
  show wpAny _ _ (field (.ref z) 2 >>= _) _ _ _
  refine wpAny_bind (wpAny_field hz rfl (x := .bool false) rfl ?_)
  show wpAny _ _ (field (.ref z) 3 >>= _) _ _ _
  refine wpAny_bind (wpAny_field hz rfl (x := .ref TI) rfl (wpAny_bind (wpAny_seqItems hTI rfl ?_)))
  show wpAny _ _ (Builtin.SmallTypes.ownedTupleIsFree (.ref z) >>= _) _ _ _
  refine wpAny_bind (wpAny_tupleHeld_zip hz hT fun h1 z1 k1 => ?_)
  simp only [Bool.false_eq_true, if_false]
  refine wpAny_bind ?_
  rw [← Array.forIn_toList]
  simp only [List.forIn_cons, List.forIn_nil]
  refine wpAny_bind (wpAny_bind (wpAny_holding ?_))
  show wpAny _ _ (Builtin.SmallTypes.nextOf (.ref i1) >>= _) _ _ _
  exact wpAny_bind (D1.done { s with heap := h1 } _ _ (D1.over u1 k1 S.zf1) fun h2 e k2 he => hE h2 e (fun c o a b x => k2 _ _ b (k1.extBut _ _ a x)) he)
theorem next_held_item {Q : Option Value → Shared → Prop} (S : ZipSep2 z TI TO i1 i2 fp1 fp2) (D1 : Draws prog w A.in1 i1 fp1 n1 P1 St1) (D2 : Draws prog w A.in1 i2 fp2 n2 P2 St2)
    (hz : IsZipHeld s.heap z TI TO T f) (hT : s.heap.get? T = some oT) (hTI : IsTupOf2 s.heap TI (.ref i1) (.ref i2)) (u1 : St1 i s.heap) (u2 : St2 i s.heap) (l1 : i < n1) (l2 : i < n2)
    (hQ : ∀ x y h' tk, P1 i x → P2 i y → IsZipHeld h' z TI TO T true → St1 (i + 1) h' → St2 (i + 1) h' → IsTupOf2 h' s.heap.objs.size x y →
      (∀ c o, c ≠ z → c ≠ i1 → c ≠ i2 → s.heap.get? c = some o → h'.get? c = some o) → Q (some (.ref s.heap.objs.size)) { s with heap := h', toks := tk }) :
    wpAny (model prog w) A (pyNext (.ref z)) Q E s := by
  have ty : s.TypeIs (.ref z) "zip" := ⟨_, hz, rfl⟩
  unfold pyNext
  refine wpAny_bind (wpAny_attempt (wpAny_callSpecial?_slot (name := Str.ofString "__next__") ty F.slot_zip_next (wpAny_call_entry F.slot_zip_next ty F.entry_zip_next ?_ (F.args_zip_next_1 _))))
  exact held_item S D1 D2 hz hT hTI u1 u2 l1 l2 fun x y h' tk a b c d e g k => wpAny_pure (hQ x y h' tk a b c d e g k)
theorem next_held_end {Q : Option Value → Shared → Prop} (S : ZipSep2 z TI TO i1 i2 fp1 fp2) (D1 : Draws prog w A.in1 i1 fp1 n1 P1 St1)
    (hz : IsZipHeld s.heap z TI TO T f) (hT : s.heap.get? T = some oT) (hTI : IsTupOf2 s.heap TI (.ref i1) (.ref i2)) (u1 : St1 n1 s.heap)
    (hQ : ∀ h', (∀ c o, c ≠ z → c ≠ i1 → s.heap.get? c = some o → h'.get? c = some o) → Q none { s with heap := h' }) :
    wpAny (model prog w) A (pyNext (.ref z)) Q E s := by
  have ty : s.TypeIs (.ref z) "zip" := ⟨_, hz, rfl⟩
  unfold pyNext
  refine wpAny_bind (wpAny_attempt (wpAny_callSpecial?_slot (name := Str.ofString "__next__") ty F.slot_zip_next (wpAny_call_entry F.slot_zip_next ty F.entry_zip_next ?_ (F.args_zip_next_1 _))))
  refine held_end S D1 hz hT hTI u1 fun h' e k he => ?_
  obtain ⟨o, ho, hc⟩ := he
  exact wpAny_bind (wpAny_isInstance (T := "StopIteration") (b := true) ⟨o, ho, hc⟩ isSubtype_stop (wpAny_pure (hQ _ k)))
end
theorem apart {h : Heap} {it l a : Addr} {i : Nat} {xs : Array Value} (p : h.IsTupleIter it l i) (q : h.IsTuple a xs) : a ≠ it := by
  intro e
  subst e
  obtain ⟨o, e1, c1, _⟩ := p
  obtain ⟨u, e2, c2, _⟩ := q
  rw [e1] at e2
  cases e2
  rw [c1] at c2
  injection c2 with c2
  exact absurd c2 (by decide)
/-- zip(t, u) as the argument of dict() -/
theorem zipTup {prog : Program} {w : World} (z TI TO i1 i2 a b : Addr) (S : ZipSep2 z TI TO i1 i2 [i1, a] [i2, b]) (xs ys : Array Value) (hl : xs.size = ys.size) :
    PairArg prog w "zip" z [z, TI, TO, i1, a, i2, b] [z, TO, i1, i2] xs.size (fun i k v => xs[i]? = some k ∧ ys[i]? = some v)
      (fun h => IsZip h z TI TO .none ∧ IsTupOf2 h TI (.ref i1) (.ref i2) ∧ IsTupOf2 h TO .none .none ∧ (h.IsTupleIter i1 a 0 ∧ h.IsTuple a xs) ∧ h.IsTupleIter i2 b 0 ∧ h.IsTuple b ys) where
  type := fun s o => ⟨_, o.1, rfl⟩
  notDict := by decide
  keep := fun h h' ⟨q1, q2, q3, ⟨q4, q5⟩, q6, q7⟩ k => ⟨k _ _ q1, k _ _ q2, k _ _ q3, ⟨q4.at fun o => k _ o, q5.at fun o => k _ o⟩, q6.at fun o => k _ o, q7.at fun o => k _ o⟩
  there := fun h ⟨q1, q2, q3, ⟨⟨o4, q4, _⟩, o5, q5, _⟩, ⟨o6, q6, _⟩, o7, q7, _⟩ c hc => by
    simp only [List.mem_cons, List.not_mem_nil, or_false] at hc
    rcases hc with e | e | e | e | e | e | e <;> subst e
    · exact ⟨_, q1⟩
    · exact ⟨_, q2⟩
    · exact ⟨_, q3⟩
    · exact ⟨_, q4⟩
    · exact ⟨_, q5⟩
    · exact ⟨_, q6⟩
    · exact ⟨_, q7⟩
  sub := fun c hc => by
    simp only [List.mem_cons, List.not_mem_nil, or_false] at hc ⊢
    rcases hc with e | e | e | e <;> simp [e]
  noKeys := fun A s Q E hA o h => getAttrOr_miss_zip o.1 rfl rfl rfl zip_no_keys (by decide +kernel) hA h
  iter := fun A s d Q E hA ⟨q1, q2, q3, q4, q6⟩ hd hf h => by
    simp only [List.mem_cons, List.not_mem_nil, or_false, not_or] at hf
    obtain ⟨dz, dI, dO, d1, da, d2, db⟩ := hf
    have D1 := Draws.tuple (prog := prog) (w := w) (A := A.in1) hA i1 a (apart q4.1 q4.2) xs
    have D2 := Draws.tuple (prog := prog) (w := w) (A := A.in1) hA i2 b (apart q6.1 q6.2) ys
    refine wpAny_pyIter_zip q1 (h z [z, TO, i1, i2] (fun i g => IsTupOf2 g TI (.ref i1) (.ref i2) ∧ (g.IsTupleIter i1 a i ∧ g.IsTuple a xs) ∧ (g.IsTupleIter i2 b i ∧ g.IsTuple b ys) ∧
      ((IsZip g z TI TO .none ∧ IsTupOf2 g TO .none .none) ∨ ∃ T f oT, IsZipHeld g z TI TO T f ∧ g.get? T = some oT ∧ T ≠ z ∧ T ≠ i1 ∧ T ≠ i2 ∧ T ≠ d)) s.heap s.toks ?_ ⟨q2, q4, q6, .inl ⟨q1, q3⟩⟩ (fun _ _ e => e) fun c hc => .inl hc)
    refine ⟨fun hm => ?_, fun i g g' st k => ?_, fun i s1 Q1 E1 hi st hds hQ => ?_, fun s1 Q1 E1 st hQ => ?_⟩
    · simp only [List.mem_cons, List.not_mem_nil, or_false] at hm
      rcases hm with e | e | e | e
      · exact dz e
      · exact dO e
      · exact d1 e
      · exact d2 e
    · obtain ⟨p1, ⟨p2, p3⟩, ⟨p4, p5⟩, p6⟩ := st
      refine ⟨k _ _ (Ne.symm dI) p1, ⟨p2.at fun o => k _ o (Ne.symm d1), p3.at fun o => k _ o (Ne.symm da)⟩, ⟨p4.at fun o => k _ o (Ne.symm d2), p5.at fun o => k _ o (Ne.symm db)⟩, ?_⟩
      rcases p6 with ⟨r1, r2⟩ | ⟨T, f, oT, r1, r2, r3, r4, r5, r6⟩
      · exact .inl ⟨k _ _ (Ne.symm dz) r1, k _ _ (Ne.symm dO) r2⟩
      · exact .inr ⟨T, f, oT, k _ _ (Ne.symm dz) r1, k _ _ r6 r2, r3, r4, r5, r6⟩
    · obtain ⟨p1, p2, p4, p6⟩ := st
      have old : ∀ {c o}, s1.heap.get? c = some o → s1.heap.objs.size ≠ c := fun e => Nat.ne_of_gt (Heap.lt_size e)
      have m1 : s1.heap.objs.size ≠ i1 := let ⟨⟨_, e, _⟩, _⟩ := p2; old e
      have m2 : s1.heap.objs.size ≠ i2 := let ⟨⟨_, e, _⟩, _⟩ := p4; old e
      rcases p6 with ⟨r1, r2⟩ | ⟨T, f, oT, r1, r2, r3, r4, r5, r6⟩
      · refine wpAny_pyNext_zipD2_item S D1 D2 r1 p1 r2 p2 p4 hi (hl ▸ hi) fun x y h' tk px py b1 _ c1 c2 b5 _ k => ?_
        exact hQ _ x y h' tk ⟨px, py⟩ (.inl ⟨_, b5, rfl, _, rfl⟩) ⟨k _ _ S.TIz S.TITO S.TIi1 S.TIi2 p1, c1, c2, .inr ⟨_, false, _, b1, b5, old r1, m1, m2, Nat.ne_of_gt hds⟩⟩
          fun c o hc e => k c o (fun v => hc (by simp [v])) (fun v => hc (by simp [v])) (fun v => hc (by simp [v])) (fun v => hc (by simp [v])) e
      · refine next_held_item S D1 D2 r1 r2 p1 p2 p4 hi (hl ▸ hi) fun x y h' tk px py b1 c1 c2 b5 k => ?_
        exact hQ _ x y h' tk ⟨px, py⟩ (.inl ⟨_, b5, rfl, _, rfl⟩) ⟨k _ _ S.TIz S.TIi1 S.TIi2 p1, c1, c2, .inr ⟨T, true, oT, b1, k _ _ r3 r4 r5 r2, r3, r4, r5, r6⟩⟩
          fun c o hc e => k c o (fun v => hc (by simp [v])) (fun v => hc (by simp [v])) (fun v => hc (by simp [v])) e
    · obtain ⟨p1, p2, p4, p6⟩ := st
      rcases p6 with ⟨r1, r2⟩ | ⟨T, f, oT, r1, r2, r3, r4, r5, r6⟩
      · exact wpAny_pyNext_zipD2_end S D1 D2 r1 p1 r2 p2 p4 (Nat.le_refl _) (by omega) (.inl rfl) fun h' tk k => hQ h' tk fun c o hc e => k c o (fun v => hc (by simp [v])) (fun v => hc (by simp [v])) (fun v => hc (by simp [v])) (fun v => hc (by simp [v])) e
      · exact next_held_end S D1 r1 r2 p1 p2 fun h' k => hQ h' s1.toks fun c o hc e => k c o (fun v => hc (by simp [v])) (fun v => hc (by simp [v])) e
open PySem.Spec PyProof.Rows L2
/-- dict(zip(..)) of tuples with keys for items -/
def tDictZip (K : PySem.W.Frag) (t : TA) : TE := fun σ H Q => t σ H fun vs H1 => ∃ (a b : Addr) (ks : List Key) (ys : List V), vs = [.ref a, .ref b] ∧ SqT K H1 a (ks.map kV) ∧ SqT K H1 b ys ∧ ks.length = ys.length ∧
  ∀ p, H1 p = none → Q (.ref p) (upd H1 p (.dK (mergeK [] (ks.zip ys))))
theorem zip_rel : ∀ {ks : List Key} {ys : List V} {us vs : List Value}, Vals (ks.map kV) us → Vals ys vs → ks.length = ys.length →
    KV (ks.zip ys) (ks.zip vs) ∧ us.length = ks.length ∧ ∀ (i : Nat) (k v : Value), us[i]? = some k → vs[i]? = some v → ∃ c, (ks.zip vs)[i]? = some (c, v) ∧ ∀ (P : Program) (w : World), (mixKind P w).is c k = true
  | [], [], _, _, .nil, .nil, _ => ⟨.nil, rfl, fun i k v h => by simp at h⟩
  | c :: ks, y :: ys, _, _, .cons r1 t1, .cons r2 t2, h => by
    obtain ⟨p1, p2, p3⟩ := zip_rel t1 t2 (by simpa using h)
    refine ⟨.cons ⟨rfl, r2⟩ p1, by rw [List.length_cons, List.length_cons, p2], fun i k v h1 h2 => ?_⟩
    cases i with
    | zero =>
      simp at h1 h2
      subst h1 h2
      exact ⟨c, rfl, fun P w => kV_is r1⟩
    | succ i => exact p3 i k v (by simpa using h1) (by simpa using h2)
theorem sepNat (n a b : Nat) (ha : a < n) (hb : b < n) : ZipSep2 (n + 4) (n + 2) (n + 3) n (n + 1) [n, a] [n + 1, b] := by
  have k1 : ∀ i : Nat, 0 < i → n + i ≠ n := fun i h => by omega
  have k2 : ∀ i j : Nat, i ≠ j → n + i ≠ n + j := fun i j h => by omega
  have k3 : ∀ i : Nat, n + i ≠ a := fun i => by omega
  have k4 : ∀ i : Nat, n + i ≠ b := fun i => by omega
  have k5 : n ≠ b := by omega
  have k6 : n ≠ a := by omega
  refine ⟨k2 2 4 (by decide), k2 3 4 (by decide), k2 2 3 (by decide), k1 2 (by decide), List.mem_cons_self, fun h => ?_, fun h => ?_, k2 2 1 (by decide), List.mem_cons_self, fun h => ?_, fun h => ?_, fun h => ?_, fun h => ?_⟩ <;>
    rcases List.mem_cons.mp h with h | h
  · exact k1 4 (by decide) h
  · exact k3 4 (List.mem_singleton.mp h)
  · exact k1 3 (by decide) h
  · exact k3 3 (List.mem_singleton.mp h)
  · exact k2 4 1 (by decide) h
  · exact k4 4 (List.mem_singleton.mp h)
  · exact k2 3 1 (by decide) h
  · exact k4 3 (List.mem_singleton.mp h)
  · exact k1 1 (by decide) h.symm
  · exact k5 (List.mem_singleton.mp h)
  · exact k1 1 (by decide) h
  · exact k3 1 (List.mem_singleton.mp h)
theorem notNew (n c : Nat) (h : c < n) : c ∉ [n + 4, n + 3, n, n + 1] := by
  intro m
  simp only [List.mem_cons, List.not_mem_nil, or_false] at m
  omega
theorem merge_len (ks : List Key) (ys : List V) : (mergeK [] (ks.zip ys)).length ≤ ks.length := by
  refine Nat.le_trans (length_mergeK (ks.zip ys) []) ?_
  rw [List.length_nil, Nat.zero_add, List.length_zip]
  exact Nat.min_le_left ..
theorem pe_dictZip {X : Cx} {e e2 : Expr} {t : TA} {p p2 pos pos2 : Pos} (hc : X.calm = true) (gd : Gl X "dict") (md : X.mg "dict" = none) (gz : Gl X "zip") (mz : X.mg "zip" = none) (ha : PA X [e, e2] t)
    (hs : starEach [e, e2] X.env = (false, eval e X.env) :: starEach [e2] X.env := by rfl) (hpl : (backTo pos2 (starEach [e2] X.env)).any (·.1) = false := by rfl)
    (ho : starEach [.Call (.Name "zip" p2) [e, e2] [] pos2] X.env = (false, eval (.Call (.Name "zip" p2) [e, e2] [] pos2) X.env) :: starEach [] X.env := by rfl) :
    PE X (.Call (.Name "dict" p) [.Call (.Name "zip" p2) [e, e2] [] pos2] [] pos) (tDictZip X.K t) := by
  refine ⟨fun pins s σ H Q I h => ?_⟩
  refine wpAny_Call_Name_kw (ld_blt I gd md PyProof.Rows.boot_dict ?_)
  refine PyProof.Rows.callWith_type1 ?_ ho rfl
  rw [ho]
  show wpAny _ _ (spliced ((false, eval (.Call (.Name "zip" p2) [e, e2] [] pos2) X.env) :: backTo pos (starEach [] X.env))) _ _ s
  refine Calls.spliced_cons ?_
  refine wpAny_Call_Name_kw (ld_blt I gz mz PyProof.Rows.boot_zip (PyProof.Rows.callWith_type1 (thn (ha.run pos2 pins s σ H _ I h) fun us s1 ⟨vs, H1, I1, r1, a, b, ks, ys, ev, hA, hB, hl, q⟩ => ?_) hs hpl))
  subst ev
  obtain ⟨u1, u2, eu, ra, rb⟩ := vals2 r1
  subst eu
  cases ra
  cases rb
  obtain ⟨xs', va, ta, za⟩ := I1.tuple hA
  obtain ⟨ys', vb, tb, zb⟩ := I1.tuple hB
  obtain ⟨o1, ho1, _⟩ := id ta
  obtain ⟨o2, ho2, _⟩ := id tb
  obtain ⟨hrel, hlen, hks⟩ := zip_rel va vb hl
  have ka : s1.heap.IsTuple a xs'.toArray := ta
  have kb : s1.heap.IsTuple b ys'.toArray := tb
  have lb := vb.length
  have big : sysModules < s1.heap.objs.size := I1.big
  have xl : xs'.length ≤ sizeLine := by rw [hlen, ← List.length_map (f := kV) (as := ks)]; exact za
  have la : xs'.toArray.size = ys'.toArray.size := by simp; omega
  have g1 := Heap.lt_size ho1
  have g2 := Heap.lt_size ho2
  refine RZ.call_zipT (show s1.heap.IsTuple a xs'.toArray from ta) (show s1.heap.IsTuple b ys'.toArray from tb) fun h1 hz hTI hTO n1 n2 hsz hk => ?_
  refine Calls.spliced_nil ?_
  have S : ZipSep2 (s1.heap.objs.size + 4) (s1.heap.objs.size + 2) (s1.heap.objs.size + 3) s1.heap.objs.size (s1.heap.objs.size + 1) [s1.heap.objs.size, a] [s1.heap.objs.size + 1, b]  := sepNat _ _ _ g1 g2
  refine PySem.call_dict_pairs (knd := mixKind X.prog X.w) (kvs := ks.zip ys') (s := { s1 with heap := h1 }) (zipTup _ _ _ _ _ a b S xs'.toArray ys'.toArray la) (I1.ok.hd hc)
    ⟨hz, hTI, hTO, ⟨n1, ka.at fun o e => hk _ _ e⟩, n2, kb.at fun o e => hk _ _ e⟩ ⟨?_, fun i k v ⟨e1, e2⟩ => ?_⟩ ?_ fun h2 tk hd k2 => ?_
  · rw [List.length_zip, ← lb]; simp; omega
  · obtain ⟨c, c1, c2⟩ := hks i k v (by simpa using e1) (by simpa using e2)
    exact ⟨c, c1, c2 _ _⟩
  · simpa using xl
  · have hm : (h1.objs.size == sysModules) = false := beq_eq_false_iff_ne.mpr (Nat.ne_of_gt (by rw [hsz]; exact Nat.lt_of_lt_of_le big (Nat.le_add_right _ _)))
    have hz2 : (mergeK [] (ks.zip ys)).length ≤ sizeLine := Nat.le_trans (merge_len ks ys) (by rw [← hlen]; exact xl)
    have hk2 : ∀ c o, s1.heap.get? c = some o → h2.get? c = some o := fun c o e => by
      have lt : (c : Nat) < s1.heap.objs.size := Heap.lt_size e
      exact k2 c o (notNew _ _ lt) (hk c o e)
    exact ⟨.ref h1.objs.size, upd H1 h1.objs.size (.dK (mergeK [] (ks.zip ys))), I1.laid (t' := tk) hk2 (by rw [hsz]; omega) (show ObjOk X.prog X.w _ _ _ (.dK (mergeK [] (ks.zip ys))) from ⟨hz2, hm, merged [] (ks.zip ys'), KV.merge hrel .nil, hd⟩), rfl, q _ (I1.hok.fresh (by rw [hsz]; omega))⟩
end Td
/-! t[::-1], t a tuple. -/
namespace Td
open PySem PySem.Spec PyProof.Rows L2 HT
section
variable {prog : Program} {w : World} {A : Around} {E : Value → Shared → Prop} {s : Shared}
theorem sliceApplied_rev {sl : Addr} {vs : Value} {n : Nat} {Q : Int × Int × Nat → Shared → Prop} (hs : s.heap.IsSliceOf sl .none .none vs) (ps : IsPart vs (some (-1)))
    (h : Q (((n : Nat) : Int) - 1, -1, n) s) : wpAny (model prog w) A (Builtin.Slice.sliceApplied (.ref sl) (pure (n : Int))) Q E s := by
  obtain ⟨os, hos, hcs, hds⟩ := id hs
  unfold Builtin.Slice.sliceApplied Builtin.Slice.sliceFields
  refine wpAny_bind (wpAny_bind (wpAny_field hos hds (x := .none) rfl (wpAny_bind (wpAny_field hos hds (x := .none) rfl (wpAny_bind (wpAny_field hos hds (x := vs) rfl (wpAny_pure ?_)))))))
  refine wpAny_bind (slicePart_ ps ?_)
  show wpAny _ _ (if ((-1 : Int) == 0) = true then _ else _) _ _ s
  rw [if_neg (by decide)]
  refine wpAny_bind (slicePart_none (wpAny_bind (slicePart_none (wpAny_bind (wpAny_pure ?_)))))
  show wpAny _ _ (match Builtin.Slice.sliceAdjust none none (-1) (n : Int) with | (lo, hi) => pure (lo, (-1 : Int), Builtin.Slice.slicePlaces lo hi (-1))) _ _ s
  have e : Builtin.Slice.sliceAdjust none none (-1) (n : Int) = ((n : Int) - 1, -1) := by
    unfold Builtin.Slice.sliceAdjust
    simp
  rw [e]
  have e2 : Builtin.Slice.slicePlaces ((n : Int) - 1) (-1) (-1) = n := by
    unfold Builtin.Slice.slicePlaces
    have h1 : ¬ ((-1 : Int) > 0) := by omega
    simp only [h1, if_false]
    split <;> simp <;> omega
  show wpAny _ _ (pure ((n : Int) - 1, (-1 : Int), Builtin.Slice.slicePlaces ((n : Int) - 1) (-1) (-1))) _ _ s
  rw [e2]
  exact wpAny_pure h
theorem fm_congr {α β : Type} {f g : α → Option β} : ∀ {l : List α}, (∀ x ∈ l, f x = g x) → l.filterMap f = l.filterMap g
  | [], _ => rfl
  | x :: l, h => by
    rw [List.filterMap_cons, List.filterMap_cons, h x List.mem_cons_self, fm_congr fun y hy => h y (List.mem_cons_of_mem _ hy)]
theorem pick_rev (xs : Array Value) : ((List.range xs.size).filterMap fun (m : Nat) => xs[(((xs.size : Nat) : Int) - 1 + (m : Int) * (-1)).toNat]?).toArray = xs.toList.reverse.toArray := by
  congr 1
  have e : ((List.range xs.size).filterMap fun (m : Nat) => xs[(((xs.size : Nat) : Int) - 1 + (m : Int) * (-1)).toNat]?) = ((List.range xs.size).map fun k => xs.size - 1 - k).filterMap (xs[·]?) := by
    rw [List.filterMap_map]
    refine fm_congr fun k hk => ?_
    have := List.mem_range.mp hk
    show _ = xs[xs.size - 1 - k]?
    congr 1
    omega
  rw [e, PySem.W.krv_range, List.filterMap_reverse, PySem.W.krv_all]
theorem getItem_tuple_rev {t sl : Addr} {items : Array Value} {vs : Value} {Q : Value → Shared → Prop} (ht : IsTup s.heap t items) (hs : s.heap.IsSliceOf sl .none .none vs) (ps : IsPart vs (some (-1)))
    (h : Q (.ref s.heap.objs.size) { s with heap := s.heap.push { cls := .type "tuple", data := .seq items.toList.reverse.toArray } })
    (hsz : items.size ≤ sizeLine) : wpAny (model prog w) A (getItem (.ref t) (.ref sl)) Q E s := by
  have htake : sizeOk (.seq items.toList.reverse.toArray) := by
    show items.toList.reverse.toArray.size ≤ sizeLine
    rw [List.size_toArray, List.length_reverse, Array.length_toList]
    omega
  obtain ⟨os, hos, hcs, hds⟩ := id hs
  have hTs : s.TypeIs (.ref sl) "slice" := ⟨os, hos, hcs⟩
  unfold getItem
  try with_reducible refine wpAny_holding ?_
  first | refine wpAny_bind (wpAny_pure ?_) | skip
  refine wpAny_bind (wpAny_sequenceKey ht.typeIs (by decide) ?_)
  refine wpAny_bind (wpAny_callSpecial?_slot (name := Str.ofString "__getitem__") ht.typeIs PyProof.Rows.slot_tuple_getitem
    (wpAny_call_entry PyProof.Rows.slot_tuple_getitem ht.typeIs entry_tuple_getitem ?_ (args_tuple_getitem _ _)))
  show wpAny _ _ (Builtin.Tuple.tupleItemsOf (.ref t) >>= _) _ _ s
  refine wpAny_bind (tupleItemsOf_ ht ?_)
  refine wpAny_bind (wpAny_typeOf hTs ?_)
  rw [if_pos (by decide)]
  refine wpAny_bind (sliceApplied_rev hs ps ?_)
  have hno : ¬ ((((items.size : Nat) : Int) - 1 == 0 && (-1 : Int) == 1 && items.size == items.size) = true) := by
    intro q
    rw [Bool.and_eq_true, Bool.and_eq_true] at q
    exact absurd q.1.2 (by decide)
  show wpAny _ _ (if ((((items.size : Nat) : Int) - 1 == 0 && (-1 : Int) == 1 && items.size == items.size) = true) then _ else _) _ _ s
  rw [if_neg hno, pick_rev]
  first
    | exact wpAny_bind (m := Builtin.Tuple.tupleExact _) (wpAny_newObj_type (wpAny_pure ⟨_, rfl, wpAny_pure h⟩) htake)
    | exact wpAny_bind (m := Builtin.Tuple.tupleExact _) (wpAny_newObj_type (wpAny_bind (wpAny_pure (wpAny_pure ⟨_, rfl, wpAny_pure h⟩))) htake)
    | exact wpAny_bind (wpAny_bind (m := Builtin.Tuple.tupleExact _) (wpAny_newObj_type (wpAny_pure (wpAny_pure ⟨_, rfl, wpAny_pure h⟩)) htake))
    | exact wpAny_bind (wpAny_bind (m := Builtin.Tuple.tupleExact _) (wpAny_newObj_type (wpAny_pure ⟨_, rfl, wpAny_pure h⟩) htake))
end
section
variable {X : Cx} {e k : Expr} {te tk : TE} {pos p2 : Pos}
theorem vals_reverse {xs : List V} {us : List Value} (h : Vals xs us) : Vals xs.reverse us.reverse := by
  induction h with
  | nil => exact .nil
  | cons r t ih =>
    rw [List.reverse_cons, List.reverse_cons]
    exact ih.append (.cons r .nil)
def tSlRev (K : PySem.W.Frag) (te tk : TE) : TE := fun σ H Q => te σ H fun x H1 => tk σ H1 fun y H2 => y = .int (-1) ∧ ∃ a xs, x = .ref a ∧ SqT K H2 a xs ∧ ∀ p, H2 p = none → Q (.ref p) (upd H2 p (.tup xs.reverse))
theorem pe_sliceRev (he : PE X e te) (hk : PE X k tk) : PE X (.Subscript e (.Slice none none (some k) p2) pos) (tSlRev X.K te tk) := by
  refine ⟨fun pins s σ H Q I h => ?_⟩
  refine Subscript_ (thn (he.run pins s σ H _ I h) fun v s1 ⟨x, H1, I1, r1, q1⟩ => ?_)
  refine wpAny_Slice ?_
  rw [evalPart_none]
  refine wpAny_pure ?_
  refine wpAny_pure ?_
  rw [evalPart_some]
  refine thn (hk.run pins s1 σ H1 _ I1 q1) fun u s2 ⟨y, H2, I2, r2, q2⟩ => ?_
  obtain ⟨rfl, a, xs, rfl, hx, q⟩ := q2
  cases r1
  obtain ⟨t, rfl⟩ := r2
  have I4 : Inv X pins σ H2 { s2 with heap := s2.heap.push { cls := .type "slice", data := .fields #[.none, .none, .int (-1) t] } } := I2.kept (t' := s2.toks) fun b ob q => Heap.get?_push_of_some _ q
  obtain ⟨its, r, ht, hz⟩ := I4.tuple hx
  have hg : wpAny (model X.prog X.w) X.A (getItem (.ref a) (.ref s2.heap.objs.size)) (EP X pins σ Q) X.xe { s2 with heap := s2.heap.push { cls := .type "slice", data := .fields #[.none, .none, .int (-1) t] } } := by
    refine getItem_tuple_rev ht (Heap.IsSliceOf.new ..) (.int (-1) t) ?_ (by rw [List.size_toArray, ← r.length]; exact hz)
    have ez : its.toArray.toList.reverse.toArray = its.reverse.toArray := rfl
    refine ⟨.ref _, _, I4.laid (t' := s2.toks) (o := .tup xs.reverse) (fun b ob q => Heap.get?_push_of_some _ q) (Nat.le_refl _) ?_, rfl, q _ (I4.hok.fresh (Nat.le_refl _))⟩
    exact ⟨by rw [List.length_reverse]; exact hz, _, vals_reverse r, IsTup.new _ _⟩
  show wpAny (model X.prog X.w) X.A (subscriptTail e (.Slice none none (some k) p2) (.ref a) (.ref s2.heap.objs.size)) (EP X pins σ Q) X.xe { s2 with heap := s2.heap.push { cls := .type "slice", data := .fields #[.none, .none, .int (-1) t] } }
  exact tail_any (ops := [.ref a, .ref s2.heap.objs.size]) ht.typeIs PyProof.Rows.slot_tuple_getitem.lookup hg (by with_unfolding_all rfl)
end
end Td
/-! Texts: a list extended by a tuple; t[::2], t[1::2]; tuple(zip(t, u)). -/
namespace Td
open PySem PySem.Spec PyProof.Rows L2 HT
theorem extMeets (D : Addr) (old : Array Value) (c : Nat) (T : Addr) (add : Array Value) (e : Nat) (dd : Option Addr) (sl : Array (Option Value)) (a1 : ¬(!old.isEmpty && Builtin.List.listTooLong (old.size + add.size)) = true) (a2 : old.size ≤ sizeLine) (a3 : old.size + add.size ≤ sizeLine + 1) :
    Meets (Builtin.«list.extend» ⟨[.ref D, .ref T], []⟩) (fun _ R s => s.heap.get? D = some { cls := .type "list", dict := none, data := .seq old c, slots := #[] } ∧ s.heap.get? T = some { cls := .type "tuple", dict := dd, data := .seq add e, slots := sl } ∧
      R (.ok (.ret Value.none)) { s with heap := s.heap.update D (Obj.mapSeq fun x => x ++ add), toks := s.toks }) := by
  refine .of_wp fun prog w A R st k => ?_
  obtain ⟨hp, gs, dr, tk, os⟩ := st
  obtain ⟨oD, oT, fin⟩ := k
  have g0 := PySem.AutoSeq1.idx_int
  have g1 := PySem.AutoSeq1.sub_tuple_tuple
  have g2 := PySem.AutoSeq1.sub_list_list
  have g3 := PySem.AutoSeq1.sub_tuple_list
  have g4 := PySem.AutoSeq1.sub_list_tuple
  have room : (old ++ add).size ≤ sizeLine + 1 := by rw [Array.size_append]; exact a3
  wp_walk using (wpAny_updateSeq oD rfl (hz := a2) (_hz' := room)), PySem.AutoSeq1.wpAny_loadPart' oD, PySem.AutoSeq1.wpAny_loadPart' oT
  exact ⟨_, rfl, fin⟩
section
variable {X : Cx}
/-- l.extend(t), t a tuple -/
def rExtT (K : PySem.W.Frag) : V → List V → Hp → VK → Prop := fun x vs H Q => ∃ (l b : Addr) (xs zs : List V), x = .ref l ∧ vs = [.ref b] ∧ H l = some (.lst xs) ∧ SqT K H b zs ∧ xs.length + zs.length ≤ sizeLine ∧ Q .non (upd H l (.lst (xs ++ zs)))
theorem mt_extT : MtM X "list.extend" (rExtT X.K) := by
  rintro pins s σ H x vs v us Q I rx rv ⟨l, b, xs, zs, rfl, rfl, eL, eB, room, go⟩
  cases rx
  obtain ⟨u, rfl, ru⟩ := rv.one
  cases ru
  obtain ⟨zl, its, n, ra, hl, oL⟩ := I.lstM eL
  obtain ⟨us, rb, tb, zb⟩ := I.tuple eB
  obtain ⟨ob, hob, hcb, nb, hdb⟩ := id tb
  have la := ra.length
  have lb := rb.length
  have few : its.toArray.size + us.toArray.size ≤ sizeLine := by rw [List.size_toArray, List.size_toArray]; omega
  have short : ¬ (!its.toArray.isEmpty && Builtin.List.listTooLong (its.toArray.size + us.toArray.size)) = true := fun z => by
    rw [notLongL few, Bool.and_false] at z
    cases z
  obtain ⟨cl, dd, dt, sl⟩ := ob
  obtain rfl : cl = .type "tuple" := hcb
  obtain rfl : dt = .seq us.toArray nb := hdb
  refine call_meets F.slot_list_extend ⟨_, oL, rfl⟩ F.entry_list_extend (F.args_list_extend_2 _ _) (extMeets l its.toArray n b us.toArray nb dd sl short (by rw [List.size_toArray]; omega) (by omega)) ⟨oL, hob, ?_⟩
  refine ⟨.non, _, I.lset (its' := its ++ us) eL oL (by simp) (ra.append rb) ?_, rfl, go⟩
  rw [List.length_append]
  omega
end
/-! ### t[b::2] -/
/-- every second item from place b on, k of them -/
def stp {α : Type} (b k : Nat) (xs : List α) : List α := (List.range k).filterMap fun m => xs[b + m * 2]?
theorem stp_vals {xs : List V} {us : List Value} (h : Vals xs us) : ∀ (js : List Nat), Vals (js.filterMap fun j => xs[j]?) (js.filterMap fun j => us[j]?)
  | [] => .nil
  | j :: js => by
    have ih := stp_vals h js
    cases e : xs[j]? with
    | none =>
      have e2 : us[j]? = none := by
        rw [List.getElem?_eq_none_iff] at e ⊢
        rw [← h.length]; exact e
      rw [List.filterMap_cons_none e, List.filterMap_cons_none e2]
      exact ih
    | some x =>
      have lt := (List.getElem?_eq_some_iff.mp e).1
      obtain ⟨u, hu, r⟩ := h.get e
      rw [List.filterMap_cons_some e, List.filterMap_cons_some hu]
      exact .cons r ih
theorem stp_map {α : Type} (b k : Nat) (xs : List α) : stp b k xs = ((List.range k).map fun m => b + m * 2).filterMap fun j => xs[j]? := by
  unfold stp
  rw [List.filterMap_map]
  rfl
theorem stp_len {α : Type} (b k : Nat) (xs : List α) : (stp b k xs).length ≤ k := by
  unfold stp
  exact Nat.le_trans (List.length_filterMap_le ..) (Nat.le_of_eq List.length_range)
/-- pairs in a row, and one side of them -/
def flat2 {α β : Type} (f g : α → β) (ps : List α) : List β := ps.flatMap fun p => [f p, g p]
theorem flat2_len {α β : Type} (f g : α → β) : ∀ ps : List α, (flat2 f g ps).length = ps.length * 2
  | [] => rfl
  | p :: ps => by
    show (f p :: g p :: flat2 f g ps).length = _
    rw [List.length_cons, List.length_cons, flat2_len f g ps, List.length_cons]
    omega
theorem flat2_at {α β : Type} (f g : α → β) : ∀ (ps : List α) (m : Nat), (flat2 f g ps)[0 + m * 2]? = (ps[m]?).map f ∧ (flat2 f g ps)[1 + m * 2]? = (ps[m]?).map g
  | [], m => by simp [flat2]
  | p :: ps, 0 => ⟨rfl, rfl⟩
  | p :: ps, m + 1 => by
    obtain ⟨a, b⟩ := flat2_at f g ps m
    show (f p :: g p :: flat2 f g ps)[0 + (m + 1) * 2]? = _ ∧ (f p :: g p :: flat2 f g ps)[1 + (m + 1) * 2]? = _
    refine ⟨?_, ?_⟩
    · rw [show 0 + (m + 1) * 2 = (0 + m * 2) + 1 + 1 by omega, List.getElem?_cons_succ, List.getElem?_cons_succ, a]; rfl
    · rw [show 1 + (m + 1) * 2 = (1 + m * 2) + 1 + 1 by omega, List.getElem?_cons_succ, List.getElem?_cons_succ, b]; rfl
theorem range_pick {α β : Type} (h : α → β) : ∀ (ps : List α) {F : Nat → Option β}, (∀ m, F m = (ps[m]?).map h) → (List.range ps.length).filterMap F = ps.map h := fun ps F e => by
  refine List.ext_getElem? fun i => ?_
  have e2 : (List.range ps.length).filterMap F = (List.range ps.length).filterMap fun m => (ps[m]?).map h := by
    congr 1
    funext m
    exact e m
  rw [e2]
  clear e e2
  induction ps generalizing i with
  | nil => rfl
  | cons p ps ih =>
    rw [List.length_cons, List.range_succ_eq_map, List.filterMap_cons_some (f := fun m => ((p :: ps)[m]?).map h) (b := h p) rfl, List.filterMap_map]
    show (h p :: (List.range ps.length).filterMap fun m => (ps[m]?).map h)[i]? = (h p :: ps.map h)[i]?
    cases i with
    | zero => rfl
    | succ i => rw [List.getElem?_cons_succ, List.getElem?_cons_succ]; exact ih i
theorem stp_flat {α β : Type} (f g : α → β) (ps : List α) : stp 0 ps.length (flat2 f g ps) = ps.map f ∧ stp 1 ps.length (flat2 f g ps) = ps.map g :=
  ⟨range_pick f ps fun m => (flat2_at f g ps m).1, range_pick g ps fun m => (flat2_at f g ps m).2⟩
/-- the places of t[b::2] -/
def plc (b n : Nat) : Nat := if b < n then (n - b - 1) / 2 + 1 else 0
section
variable {prog : Program} {w : World} {A : Around} {E : Value → Shared → Prop} {s : Shared}
theorem stepApplied {sl : Addr} {vl vs : Value} {l : Option Int} {b n : Nat} {Q : Int × Int × Nat → Shared → Prop} (hs : s.heap.IsSliceOf sl vl .none vs) (pl : IsPart vl l) (ps : IsPart vs (some 2)) (hb : (l = none ∧ b = 0) ∨ (l = some ((b : Nat) : Int) ∧ b ≤ n))
    (h : Q (((b : Nat) : Int), 2, plc b n) s) : wpAny (model prog w) A (Builtin.Slice.sliceApplied (.ref sl) (pure (n : Int))) Q E s := by
  obtain ⟨os, hos, hcs, hds⟩ := id hs
  unfold Builtin.Slice.sliceApplied Builtin.Slice.sliceFields
  refine wpAny_bind (wpAny_bind (wpAny_field hos hds (x := vl) rfl (wpAny_bind (wpAny_field hos hds (x := .none) rfl (wpAny_bind (wpAny_field hos hds (x := vs) rfl (wpAny_pure ?_)))))))
  refine wpAny_bind (slicePart_ ps ?_)
  show wpAny _ _ (if ((2 : Int) == 0) = true then _ else _) _ _ s
  rw [if_neg (by decide)]
  refine wpAny_bind (slicePart_ pl (wpAny_bind (slicePart_none (wpAny_bind (wpAny_pure ?_)))))
  have e : Builtin.Slice.sliceAdjust l none 2 (n : Int) = (((b : Nat) : Int), (n : Int)) := by
    unfold Builtin.Slice.sliceAdjust
    rcases hb with ⟨rfl, rfl⟩ | ⟨rfl, hb⟩
    · simp
    · have h1 : ¬ ((2 : Int) < 0) := by omega
      have h2 : ¬ (((b : Nat) : Int) < 0) := by omega
      simp only [h1, h2, if_false]
      rw [Prod.mk.injEq]
      exact ⟨by omega, rfl⟩
  have e2 : Builtin.Slice.slicePlaces ((b : Nat) : Int) (n : Int) 2 = plc b n := by
    unfold Builtin.Slice.slicePlaces plc
    have h1 : (2 : Int) > 0 := by omega
    rw [if_pos h1]
    by_cases h : b < n
    · rw [if_pos h, if_pos (by omega)]
      omega
    · rw [if_neg h, if_neg (by omega)]
      rfl
  show wpAny _ _ (match Builtin.Slice.sliceAdjust l none 2 (n : Int) with | (lo, hi) => pure (lo, (2 : Int), Builtin.Slice.slicePlaces lo hi 2)) _ _ s
  rw [e]
  show wpAny _ _ (pure (((b : Nat) : Int), (2 : Int), Builtin.Slice.slicePlaces ((b : Nat) : Int) (n : Int) 2)) _ _ s
  rw [e2]
  exact wpAny_pure h
theorem getItem_step {t sl : Addr} {items : Array Value} {vl vs : Value} {l : Option Int} {b : Nat} {Q : Value → Shared → Prop} (ht : IsTup s.heap t items) (hs : s.heap.IsSliceOf sl vl .none vs) (pl : IsPart vl l) (ps : IsPart vs (some 2)) (hb : (l = none ∧ b = 0) ∨ (l = some ((b : Nat) : Int) ∧ b ≤ items.size))
    (h : Q (.ref s.heap.objs.size) { s with heap := s.heap.push { cls := .type "tuple", data := .seq (stp b (plc b items.size) items.toList).toArray } })
    (hsz : items.size ≤ sizeLine) : wpAny (model prog w) A (getItem (.ref t) (.ref sl)) Q E s := by
  have few : plc b items.size ≤ items.size := by unfold plc; split <;> omega
  have fit : sizeOk (.seq (stp b (plc b items.size) items.toList).toArray) := by
    show (stp b (plc b items.size) items.toList).toArray.size ≤ sizeLine
    rw [List.size_toArray]
    exact Nat.le_trans (stp_len ..) (by omega)
  obtain ⟨os, hos, hcs, hds⟩ := id hs
  have tS : s.TypeIs (.ref sl) "slice" := ⟨os, hos, hcs⟩
  unfold getItem
  try with_reducible refine wpAny_holding ?_
  first | refine wpAny_bind (wpAny_pure ?_) | skip
  refine wpAny_bind (wpAny_sequenceKey ht.typeIs (by decide) ?_)
  refine wpAny_bind (wpAny_callSpecial?_slot (name := Str.ofString "__getitem__") ht.typeIs PyProof.Rows.slot_tuple_getitem
    (wpAny_call_entry PyProof.Rows.slot_tuple_getitem ht.typeIs entry_tuple_getitem ?_ (args_tuple_getitem _ _)))
  show wpAny _ _ (Builtin.Tuple.tupleItemsOf (.ref t) >>= _) _ _ s
  refine wpAny_bind (tupleItemsOf_ ht ?_)
  refine wpAny_bind (wpAny_typeOf tS ?_)
  rw [if_pos (by decide)]
  refine wpAny_bind (stepApplied hs pl ps hb ?_)
  have hno : ¬ ((((b : Nat) : Int) == 0 && (2 : Int) == 1 && plc b items.size == items.size) = true) := by
    intro q
    rw [Bool.and_eq_true, Bool.and_eq_true] at q
    exact absurd q.1.2 (by decide)
  show wpAny _ _ (if ((((b : Nat) : Int) == 0 && (2 : Int) == 1 && plc b items.size == items.size) = true) then _ else _) _ _ s
  rw [if_neg hno]
  have ep : ((List.range (plc b items.size)).filterMap fun (m : Nat) => items[(((b : Nat) : Int) + (m : Int) * 2).toNat]?).toArray = (stp b (plc b items.size) items.toList).toArray := by
    unfold stp
    congr 2
    funext m
    rw [Array.getElem?_toList, show (((b : Nat) : Int) + (m : Int) * 2).toNat = b + m * 2 by omega]
  rw [ep]
  first
    | exact wpAny_bind (m := Builtin.Tuple.tupleExact _) (wpAny_newObj_type (wpAny_pure ⟨_, rfl, wpAny_pure h⟩) fit)
    | exact wpAny_bind (m := Builtin.Tuple.tupleExact _) (wpAny_newObj_type (wpAny_bind (wpAny_pure (wpAny_pure ⟨_, rfl, wpAny_pure h⟩))) fit)
    | exact wpAny_bind (wpAny_bind (m := Builtin.Tuple.tupleExact _) (wpAny_newObj_type (wpAny_pure (wpAny_pure ⟨_, rfl, wpAny_pure h⟩)) fit))
    | exact wpAny_bind (wpAny_bind (m := Builtin.Tuple.tupleExact _) (wpAny_newObj_type (wpAny_pure ⟨_, rfl, wpAny_pure h⟩) fit))
end
section
variable {X : Cx} {e k : Expr} {lo : Option Expr} {te tk : TE} {tl : TO} {pos p2 : Pos}
/-- t[::2] or t[1::2] of a tuple of pairs in a row -/
def tStep (K : PySem.W.Frag) (te : TE) (tl : TO) (tk : TE) : TE := fun σ H Q => te σ H fun x H1 => tl σ H1 fun l H2 => tk σ H2 fun y H3 => y = .int 2 ∧ ∃ (a : Addr) (xs : List V) (b : Nat), x = .ref a ∧ SqT K H3 a xs ∧ ((l = none ∧ b = 0) ∨ (l = some ((b : Nat) : Int) ∧ b ≤ xs.length)) ∧
  ∀ p, H3 p = none → Q (.ref p) (upd H3 p (.tup (stp b (plc b xs.length) xs)))
theorem pe_step (he : PE X e te) (hl : PO X lo tl) (hk : PE X k tk) : PE X (.Subscript e (.Slice lo none (some k) p2) pos) (tStep X.K te tl tk) := by
  refine ⟨fun pins s σ H Q I h => ?_⟩
  refine Subscript_ (thn (he.run pins s σ H _ I h) fun v s1 ⟨x, H1, I1, r1, q1⟩ => ?_)
  refine wpAny_Slice (thn (hl.run pins s1 σ H1 _ I1 q1) fun vl s2 ⟨l, H2, I2, pl, q2⟩ => ?_)
  rw [evalPart_none]
  refine wpAny_pure ?_
  rw [evalPart_some]
  refine thn (hk.run pins s2 σ H2 _ I2 q2) fun u s3 ⟨y, H3, I3, r3, q3⟩ => ?_
  obtain ⟨rfl, a, xs, b, rfl, hx, hb, q⟩ := q3
  cases r1
  obtain ⟨t, rfl⟩ := r3
  have I4 : Inv X pins σ H3 { s3 with heap := s3.heap.push { cls := .type "slice", data := .fields #[vl, .none, .int 2 t] } } := I3.kept (t' := s3.toks) fun b ob q => Heap.get?_push_of_some _ q
  obtain ⟨its, r, ht, hz⟩ := I4.tuple hx
  have el := r.length
  have hg : wpAny (model X.prog X.w) X.A (getItem (.ref a) (.ref s3.heap.objs.size)) (EP X pins σ Q) X.xe { s3 with heap := s3.heap.push { cls := .type "slice", data := .fields #[vl, .none, .int 2 t] } } := by
    refine getItem_step (l := l) (b := b) ht (Heap.IsSliceOf.new ..) pl (.int 2 t) (hb.elim .inl fun z => .inr ⟨z.1, by rw [List.size_toArray, ← el]; exact z.2⟩) ?_ (by rw [List.size_toArray, ← el]; exact hz)
    have en : plc b its.toArray.size = plc b xs.length := by rw [List.size_toArray, ← el]
    rw [en]
    have hv : Vals (stp b (plc b xs.length) xs) (stp b (plc b xs.length) its) := by rw [stp_map, stp_map]; exact stp_vals r _
    refine ⟨.ref _, _, I4.laid (t' := s3.toks) (o := .tup (stp b (plc b xs.length) xs)) (fun b ob q => Heap.get?_push_of_some _ q) (Nat.le_refl _) ?_, rfl, q _ (I4.hok.fresh (Nat.le_refl _))⟩
    refine ⟨Nat.le_trans (stp_len ..) ?_, _, hv, IsTup.new _ _⟩
    unfold plc
    split <;> omega
  show wpAny (model X.prog X.w) X.A (subscriptTail e (.Slice lo none (some k) p2) (.ref a) (.ref s3.heap.objs.size)) (EP X pins σ Q) X.xe { s3 with heap := s3.heap.push { cls := .type "slice", data := .fields #[vl, .none, .int 2 t] } }
  exact tail_any (ops := [.ref a, .ref s3.heap.objs.size]) ht.typeIs PyProof.Rows.slot_tuple_getitem.lookup hg (by with_unfolding_all rfl)
end
end Td
/-! A call with keywords in a body whose errors are caught. -/
namespace Td
open PySem PySem.Spec PyProof.Rows L2
/-- the arguments, the keywords' values, then the def's promise; its errors at the slots -/
def tCallNS (n j : Nat) (sp : Sp) (gV : List V → List V → List V) (W : L2.St → XK) (t tk : TA) : TE := fun σ H Q => t σ H fun vs H1 => tk σ H1 fun zs H2 => (vs.length = n ∧ zs.length = j) ∧ sp (gV vs zs) H2 Q (W σ)
section
variable {X : Cx} {CQ : CXT} {lev n : Nat} {fa : Addr} {fd : FuncData} {ns ks : List Str} {sp : Sp} {W : L2.St → XK} {x : Str} {at1 at2 : Pos} {e1 : Expr} {rest : List Expr} {kws : List Keyword} {t tk : TA} {g : List Value → List Value → List Value} {gV : List V → List V → List V}
theorem pe_callNS (def_ : FnOk X.prog X.w X.K X.mg X.base CQ lev fa fd ns sp) (room : Room lev X.A) (glob : Gl X x) (here : X.mg x = some (.ref fa)) (kept : PySem.W.keepIn X.K (.ref fa) = true) (bind : KBn X.K fd ns n ks g gV) (pass : ∀ σ, PassesAt CQ X σ (W σ))
    (args : PA X (e1 :: rest) t) (keys : PK X kws tk) (named : (backToKw at2 (keywordEach kws X.env)).all (·.1.isSome) = true := by rfl) (names : (backToKw at2 (keywordEach kws X.env)).filterMap (·.1) = ks := by rfl)
    (dbg : (x == ("__debug__" : Str)) = false := by decide) (first : starEach (e1 :: rest) X.env = (false, eval e1 X.env) :: starEach rest X.env := by rfl)
    (plain : ((backTo at2 (starEach (e1 :: rest) X.env)).any (·.1) || (backToKw at2 (keywordEach kws X.env)).any (·.1.isNone)) = false := by rfl) :
    PE X (.Call (.Name x at1) (e1 :: rest) kws at2) (tCallNS n ks.length sp gV W t tk) := by
  refine ⟨fun pins s σ H Q inv want => wpAny_Call_Name_kw (ld_glob inv glob here ?_ dbg)⟩
  have go1 := args.run at2 pins s σ H _ inv want
  refine PySem.W.callWith_KW (h₀ := X.base) inv.ok.mod.kin kept named (thn go1 fun us s1 got1 => ?_) plain first
  obtain ⟨vs, H1, inv1, rel1, want1⟩ := got1
  refine thn (keys.run at2 pins s1 σ H1 _ inv1 want1) fun ws s2 got2 => ?_
  obtain ⟨zs, H2, inv2, rel2, ⟨len1, len2⟩, want2⟩ := got2
  rw [names]
  have bound := bind.to s2 us ws inv2.kIn (rel1.length.symm.trans len1) (rel2.length.symm.trans len2)
  have ran := def_.run X.A X.stack s2 H2 ⟨us, ks.zip ws⟩ (g us ws) (gV vs zs) Q (W σ) room inv2.env0 bound (bind.rel rel1 rel2) want2
  refine ⟨inv2.kIn, wpAny_call (codeAny_mono ran fun out s3 got3 => ?_)⟩
  match out, got3 with
  | .error er, got3 => exact pass σ pins H2 s2 er s3 inv2 got3
  | .ok (.ret u), got3 => exact inv2.after got3
  | .ok .next, got3 => exact got3.elim
  | .ok .brk, got3 => exact got3.elim
  | .ok .cont, got3 => exact got3.elim
end
end Td
/-! Comprehensions that leave the heap as it was but for what they make: the new list by what each turn gives. -/
namespace Td
open PySem PySem.Spec PyProof.Rows L2
theorem filter_next {α : Type} {f : α → Bool} {l : List α} {i : Nat} {x : α} (h : l[i]? = some x) : (l.take (i + 1)).filter f = if f x = true then (l.take i).filter f ++ [x] else (l.take i).filter f := by
  rw [take_more h, List.filter_append]
  cases hf : f x <;> simp [hf]
/-- values that bear the things of a list, one each -/
structure Rws {α : Type} (R : Hp → V → α → Prop) (H : Hp) (zs : List V) (L : List α) : Prop where
  len : zs.length = L.length
  get : ∀ (i : Nat) (x : α), L[i]? = some x → ∃ v, zs[i]? = some v ∧ R H v x
section
variable {α : Type} {R : Hp → V → α → Prop} {H H' : Hp}
theorem Rws.nil : Rws R H [] [] := ⟨rfl, fun i x h => by simp at h⟩
theorem Rws.keep (m : ∀ {v x}, R H v x → R H' v x) {zs : List V} {L : List α} (h : Rws R H zs L) : Rws R H' zs L := ⟨h.len, fun i x e => by
  obtain ⟨v, h1, h2⟩ := h.get i x e
  exact ⟨v, h1, m h2⟩⟩
theorem Rws.snoc {zs : List V} {L : List α} {v : V} {x : α} (h : Rws R H zs L) (r : R H v x) : Rws R H (zs ++ [v]) (L ++ [x]) := by
  refine ⟨by rw [List.length_append, List.length_append, h.len]; rfl, fun i y e => ?_⟩
  by_cases hi : i < L.length
  · rw [List.getElem?_append_left hi] at e
    obtain ⟨v, h1, h2⟩ := h.get i y e
    exact ⟨v, by rw [List.getElem?_append_left (by rw [h.len]; exact hi)]; exact h1, h2⟩
  · rw [List.getElem?_append_right (by omega)] at e
    have : i - L.length = 0 := by
      have := (List.getElem?_eq_some_iff.mp e).1
      rw [List.length_singleton] at this
      omega
    rw [this] at e
    cases e
    exact ⟨v, by rw [List.getElem?_append_right (by rw [h.len]; omega), h.len, this]; rfl, r⟩
theorem Rws.inv {zs : List V} {L : List α} {i : Nat} {v : V} (h : Rws R H zs L) (e : zs[i]? = some v) : ∃ x, L[i]? = some x ∧ R H v x := by
  have hi : i < L.length := by rw [← h.len]; exact (List.getElem?_eq_some_iff.mp e).1
  obtain ⟨w, h1, h2⟩ := h.get i _ (List.getElem?_eq_getElem hi)
  rw [e] at h1
  cases h1
  exact ⟨_, List.getElem?_eq_getElem hi, h2⟩
theorem Rws.el {el : α → V} {zs : List V} {L : List α} (h : Rws (fun _ v x => v = el x) H zs L) : zs = L.map el := by
  refine List.ext_getElem? fun i => ?_
  rw [List.getElem?_map]
  by_cases hi : i < L.length
  · obtain ⟨w, h1, h2⟩ := h.get i _ (List.getElem?_eq_getElem hi)
    rw [h1, h2, List.getElem?_eq_getElem hi]
    rfl
  · rw [List.getElem?_eq_none (by rw [h.len]; omega), List.getElem?_eq_none (by omega)]
    rfl
theorem Rws.tn {K : PySem.W.Frag} {g : α → PyData} : ∀ {zs : List V} {L : List α}, Rws (fun H v x => Tn K H v (g x)) H zs L → TnAll K H zs (L.map g)
  | [], [], _ => .nil
  | [], _ :: _, h => by have := h.len; simp at this
  | _ :: _, [], h => by have := h.len; simp at this
  | v :: zs, x :: L, h => by
    obtain ⟨w, h1, h2⟩ := h.get 0 x rfl
    cases h1
    exact .cons h2 (Rws.tn ⟨by have := h.len; simpa using this, fun i y e => by simpa using h.get (i + 1) y (by simpa using e)⟩)
end
section
variable {K : PySem.W.Frag} {a : Addr} {xs : List V} {g : TG} {tt : TT} {te : TE} {vs : List Nat} {σ : L2.St} {H1 : Hp} {D : Addr} {Qd : Hp → Prop}
variable {α : Type} (L : List α) (en : α → V) (f : α → Bool) (R : Hp → V → α → Prop)
abbrev Turn (g : TG) (tt : TT) (te : TE) (vs : List Nat) (σ : L2.St) (v : V) (H : Hp) (Yes : V → Hp → Prop) (No : Hp → Prop) : Prop :=
  g v (wipe σ vs) H fun σ2 H2 => wipe σ2 vs = wipe σ vs ∧ tt σ2 H2 fun b H3 => if b = true then te σ2 H3 Yes else No H3
/-- over a tuple, any word J of the heap beside it -/
theorem bu_tup (J : Hp → Prop) (mono : ∀ {H H' : Hp} {v : V} {x : α}, TK H H' → R H v x → R H' v x) (hx : xs = L.map en) (hlen : L.length ≤ 1000) (h0 : J (upd H1 D (.lst [])))
    (hl : ∀ H', J H' → SqT K H' a xs) (hJ : ∀ (H' : Hp) (zs zs' : List V), J H' → H' D = some (.lst zs) → J (upd H' D (.lst zs')))
    (turn : ∀ (i : Nat) (x : α) (H' : Hp), L[i]? = some x → J H' → (∃ zs, H' D = some (.lst zs)) → ∀ (Yes : V → Hp → Prop) (No : Hp → Prop), (f x = true → ∀ (y : V) (H2 : Hp), J H2 → TK H' H2 → H2 D = H' D → R H2 y x → Yes y H2) → (f x = false → ∀ (H2 : Hp), J H2 → TK H' H2 → H2 D = H' D → No H2) → Turn g tt te vs σ (en x) H' Yes No)
    (over : ∀ (H' : Hp) (zs : List V), J H' → H' D = some (.lst zs) → Rws R H' zs (L.filter f) → Qd H') :
    ∃ W : Nat → Nat → Hp → Prop, (∃ m, W 0 m (upd H1 D (.lst []))) ∧ ∀ i m H, W i m H →
      ((Itt K a).stop i H ∧ Qd H) ∨ ((Itt K a).go i H ∧ ∃ Nx : Hp → Prop, (∀ H', Nx H' → ∃ m', m' < m ∧ W (i + 1) m' H') ∧ ∀ x H', (Itt K a).yld i H x H' → g x (wipe σ vs) H' fun σ2 H2 => wipe σ2 vs = wipe σ vs ∧ tt σ2 H2 fun b H3 =>
        if b = true then te σ2 H3 fun y H4 => ∃ acc, H4 D = some (.lst acc) ∧ acc.length < sizeLine ∧ Nx (upd H4 D (.lst (acc ++ [y]))) else Nx H3) := by
  refine lc_tup (K := K) (a := a) (xs := xs) (fun i H' => ∃ zs, J H' ∧ H' D = some (.lst zs) ∧ Rws R H' zs ((L.take i).filter f)) ⟨[], h0, upd_same, by rw [List.take_zero]; exact Rws.nil⟩ (fun i H' _ ⟨_, j, _⟩ => hl H' j) ?_ ?_
  · rintro i y H' hy ⟨zs, j, hz, hR⟩
    rw [hx, List.getElem?_map] at hy
    obtain ⟨x, hx', rfl⟩ := Option.map_eq_some_iff.mp hy
    have fn := filter_next (f := f) hx'
    have il := (List.getElem?_eq_some_iff.mp hx').1
    have zl : zs.length ≤ 1000 := by
      have := hR.len
      have h2 := List.length_filter_le f (L.take i)
      rw [List.length_take] at h2
      omega
    refine turn i x H' hx' j ⟨zs, hz⟩ _ _ (fun hf y H2 j2 tk e r => ?_) (fun hf H2 j2 tk e => ?_)
    · rw [hz] at e
      refine ⟨zs, e, small1000 (by omega), zs ++ [y], hJ H2 zs _ j2 e, upd_same, ?_⟩
      have tk2 : TK H2 (upd H2 D (.lst (zs ++ [y]))) := TK.upd (by rw [e]; trivial)
      rw [fn, if_pos hf]
      exact (hR.keep (mono (tk.trans tk2))).snoc (mono tk2 r)
    · rw [hz] at e
      refine ⟨zs, j2, e, ?_⟩
      rw [fn, if_neg (by rw [hf]; exact Bool.noConfusion)]
      exact hR.keep (mono tk)
  · rintro H' ⟨zs, j, hz, hR⟩
    rw [hx, List.length_map, List.take_length] at hR
    exact over H' zs j hz hR
theorem bu_list (J : Hp → Prop) (mono : ∀ {H H' : Hp} {v : V} {x : α}, TK H H' → R H v x → R H' v x) (hx : xs = L.map en) (hlen : L.length ≤ 1000) (h0 : J (upd H1 D (.lst [])))
    (hl : ∀ H', J H' → SqL K H' a xs) (hJ : ∀ (H' : Hp) (zs zs' : List V), J H' → H' D = some (.lst zs) → J (upd H' D (.lst zs')))
    (turn : ∀ (i : Nat) (x : α) (H' : Hp), L[i]? = some x → J H' → (∃ zs, H' D = some (.lst zs)) → ∀ (Yes : V → Hp → Prop) (No : Hp → Prop), (f x = true → ∀ (y : V) (H2 : Hp), J H2 → TK H' H2 → H2 D = H' D → R H2 y x → Yes y H2) → (f x = false → ∀ (H2 : Hp), J H2 → TK H' H2 → H2 D = H' D → No H2) → Turn g tt te vs σ (en x) H' Yes No)
    (over : ∀ (H' : Hp) (zs : List V), J H' → H' D = some (.lst zs) → Rws R H' zs (L.filter f) → Qd H') :
    ∃ W : Nat → Nat → Hp → Prop, (∃ m, W 0 m (upd H1 D (.lst []))) ∧ ∀ i m H, W i m H →
      ((Itl K a).stop i H ∧ Qd H) ∨ ((Itl K a).go i H ∧ ∃ Nx : Hp → Prop, (∀ H', Nx H' → ∃ m', m' < m ∧ W (i + 1) m' H') ∧ ∀ x H', (Itl K a).yld i H x H' → g x (wipe σ vs) H' fun σ2 H2 => wipe σ2 vs = wipe σ vs ∧ tt σ2 H2 fun b H3 =>
        if b = true then te σ2 H3 fun y H4 => ∃ acc, H4 D = some (.lst acc) ∧ acc.length < sizeLine ∧ Nx (upd H4 D (.lst (acc ++ [y]))) else Nx H3) := by
  refine lc_list (K := K) (a := a) (xs := xs) (fun i H' => ∃ zs, J H' ∧ H' D = some (.lst zs) ∧ Rws R H' zs ((L.take i).filter f)) ⟨[], h0, upd_same, by rw [List.take_zero]; exact Rws.nil⟩ (fun i H' _ ⟨_, j, _⟩ => hl H' j) ?_ ?_
  · rintro i y H' hy ⟨zs, j, hz, hR⟩
    rw [hx, List.getElem?_map] at hy
    obtain ⟨x, hx', rfl⟩ := Option.map_eq_some_iff.mp hy
    have fn := filter_next (f := f) hx'
    have il := (List.getElem?_eq_some_iff.mp hx').1
    have zl : zs.length ≤ 1000 := by
      have := hR.len
      have h2 := List.length_filter_le f (L.take i)
      rw [List.length_take] at h2
      omega
    refine turn i x H' hx' j ⟨zs, hz⟩ _ _ (fun hf y H2 j2 tk e r => ?_) (fun hf H2 j2 tk e => ?_)
    · rw [hz] at e
      refine ⟨zs, e, small1000 (by omega), zs ++ [y], hJ H2 zs _ j2 e, upd_same, ?_⟩
      have tk2 : TK H2 (upd H2 D (.lst (zs ++ [y]))) := TK.upd (by rw [e]; trivial)
      rw [fn, if_pos hf]
      exact (hR.keep (mono (tk.trans tk2))).snoc (mono tk2 r)
    · rw [hz] at e
      refine ⟨zs, j2, e, ?_⟩
      rw [fn, if_neg (by rw [hf]; exact Bool.noConfusion)]
      exact hR.keep (mono tk)
  · rintro H' ⟨zs, j, hz, hR⟩
    rw [hx, List.length_map, List.take_length] at hR
    exact over H' zs j hz hR
end
section
variable {g : TG} {tt : TT} {te : TE} {vs : List Nat} {σ : L2.St} {H1 : Hp} {D : Addr} {Qd : Hp → Prop}
theorem range_take {n i : Nat} (h : i < n) : (List.range n)[i]? = some i := by rw [List.getElem?_range h]
/-- over numbers -/
theorem bu_range {lo : Int} {n : Nat} (f : Nat → Bool) (R : Hp → V → Nat → Prop) (J : Hp → Prop) (mono : ∀ {H H' : Hp} {v : V} {x : Nat}, TK H H' → R H v x → R H' v x) (hlen : n ≤ 1000) (h0 : J (upd H1 D (.lst [])))
    (hJ : ∀ (H' : Hp) (zs zs' : List V), J H' → H' D = some (.lst zs) → J (upd H' D (.lst zs')))
    (turn : ∀ (i : Nat) (H' : Hp), i < n → J H' → (∃ zs, H' D = some (.lst zs)) → ∀ (Yes : V → Hp → Prop) (No : Hp → Prop), (f i = true → ∀ (y : V) (H2 : Hp), J H2 → TK H' H2 → H2 D = H' D → R H2 y i → Yes y H2) → (f i = false → ∀ (H2 : Hp), J H2 → TK H' H2 → H2 D = H' D → No H2) → Turn g tt te vs σ (.int (lo + (i : Nat))) H' Yes No)
    (over : ∀ (H' : Hp) (zs : List V), J H' → H' D = some (.lst zs) → Rws R H' zs ((List.range n).filter f) → Qd H') :
    ∃ W : Nat → Nat → Hp → Prop, (∃ m, W 0 m (upd H1 D (.lst []))) ∧ ∀ i m H, W i m H →
      ((Itr lo n).stop i H ∧ Qd H) ∨ ((Itr lo n).go i H ∧ ∃ Nx : Hp → Prop, (∀ H', Nx H' → ∃ m', m' < m ∧ W (i + 1) m' H') ∧ ∀ x H', (Itr lo n).yld i H x H' → g x (wipe σ vs) H' fun σ2 H2 => wipe σ2 vs = wipe σ vs ∧ tt σ2 H2 fun b H3 =>
        if b = true then te σ2 H3 fun y H4 => ∃ acc, H4 D = some (.lst acc) ∧ acc.length < sizeLine ∧ Nx (upd H4 D (.lst (acc ++ [y]))) else Nx H3) := by
  refine lc_range (lo := lo) (n := n) (fun i H' => ∃ zs, J H' ∧ H' D = some (.lst zs) ∧ Rws R H' zs (((List.range n).take i).filter f)) ⟨[], h0, upd_same, by rw [List.take_zero]; exact Rws.nil⟩ ?_ ?_
  · rintro i H' hi ⟨zs, j, hz, hR⟩
    have hx' := range_take hi
    have fn := filter_next (f := f) hx'
    have zl : zs.length ≤ 1000 := by
      have := hR.len
      have h2 := List.length_filter_le f ((List.range n).take i)
      rw [List.length_take] at h2
      omega
    refine turn i H' hi j ⟨zs, hz⟩ _ _ (fun hf y H2 j2 tk e r => ?_) (fun hf H2 j2 tk e => ?_)
    · rw [hz] at e
      refine ⟨zs, e, small1000 (by omega), zs ++ [y], hJ H2 zs _ j2 e, upd_same, ?_⟩
      have tk2 : TK H2 (upd H2 D (.lst (zs ++ [y]))) := TK.upd (by rw [e]; trivial)
      rw [fn, if_pos hf]
      exact (hR.keep (mono (tk.trans tk2))).snoc (mono tk2 r)
    · rw [hz] at e
      refine ⟨zs, j2, e, ?_⟩
      rw [fn, if_neg (by rw [hf]; exact Bool.noConfusion)]
      exact hR.keep (mono tk)
  · rintro H' ⟨zs, j, hz, hR⟩
    have e : (List.range n).take n = List.range n := List.take_of_length_le (by rw [List.length_range]; exact Nat.le_refl _)
    rw [e] at hR
    exact over H' zs j hz hR
end
/-! ### the heap as it was -/
section
variable {K : PySem.W.Frag} {a : Addr} {xs : List V} {g : TG} {tt : TT} {te : TE} {vs : List Nat} {σ : L2.St} {H1 : Hp} {D : Addr} {Qd : Hp → Prop}
variable {α : Type} (L : List α) (en : α → V) (f : α → Bool) (R : Hp → V → α → Prop)
/-- what stood stands, and the new list is a list -/
def JS (H1 : Hp) (D : Addr) (H' : Hp) : Prop := Same H1 H' ∧ ∃ zs, H' D = some (.lst zs)
theorem JS.start (hD : H1 D = none) : JS H1 D (upd H1 D (.lst [])) := ⟨Same.new hD _, [], upd_same⟩
theorem JS.put (hD : H1 D = none) (H' : Hp) (zs zs' : List V) (j : JS H1 D H') (_ : H' D = some (.lst zs)) : JS H1 D (upd H' D (.lst zs')) := ⟨own_same j.1 hD, zs', upd_same⟩
theorem JS.go {H' H2 : Hp} (j : JS H1 D H') (s : Same H' H2) : JS H1 D H2 ∧ H2 D = H' D := by
  obtain ⟨s1, zs, e⟩ := j
  exact ⟨⟨s1.trans s, zs, s _ _ e⟩, by rw [e]; exact s _ _ e⟩
theorem buS_tup (mono : ∀ {H H' : Hp} {v : V} {x : α}, TK H H' → R H v x → R H' v x) (hl : SqT K H1 a xs) (hx : xs = L.map en) (hlen : L.length ≤ 1000) (hD : H1 D = none)
    (turn : ∀ (i : Nat) (x : α) (H' : Hp), L[i]? = some x → Same H1 H' → ∀ (Yes : V → Hp → Prop) (No : Hp → Prop), (f x = true → ∀ (y : V) (H2 : Hp), Same H' H2 → R H2 y x → Yes y H2) → (f x = false → ∀ (H2 : Hp), Same H' H2 → No H2) → Turn g tt te vs σ (en x) H' Yes No)
    (over : ∀ (H' : Hp) (zs : List V), Same H1 H' → H' D = some (.lst zs) → Rws R H' zs (L.filter f) → Qd H') :
    ∃ W : Nat → Nat → Hp → Prop, (∃ m, W 0 m (upd H1 D (.lst []))) ∧ ∀ i m H, W i m H →
      ((Itt K a).stop i H ∧ Qd H) ∨ ((Itt K a).go i H ∧ ∃ Nx : Hp → Prop, (∀ H', Nx H' → ∃ m', m' < m ∧ W (i + 1) m' H') ∧ ∀ x H', (Itt K a).yld i H x H' → g x (wipe σ vs) H' fun σ2 H2 => wipe σ2 vs = wipe σ vs ∧ tt σ2 H2 fun b H3 =>
        if b = true then te σ2 H3 fun y H4 => ∃ acc, H4 D = some (.lst acc) ∧ acc.length < sizeLine ∧ Nx (upd H4 D (.lst (acc ++ [y]))) else Nx H3) :=
  bu_tup (K := K) (a := a) (xs := xs) L en f R (JS H1 D) mono hx hlen (JS.start hD) (fun H' j => SqT.same j.1 hl) (JS.put hD)
    (fun i x H' hx' j _ Yes No y n => turn i x H' hx' j.1 Yes No (fun hf v H2 s r => y hf v H2 (j.go s).1 (TK.of_same s) (j.go s).2 r) fun hf H2 s => n hf H2 (j.go s).1 (TK.of_same s) (j.go s).2)
    fun H' zs j hz hR => over H' zs j.1 hz hR
theorem buS_list (mono : ∀ {H H' : Hp} {v : V} {x : α}, TK H H' → R H v x → R H' v x) (hl : SqL K H1 a xs) (hx : xs = L.map en) (hlen : L.length ≤ 1000) (hD : H1 D = none)
    (turn : ∀ (i : Nat) (x : α) (H' : Hp), L[i]? = some x → Same H1 H' → ∀ (Yes : V → Hp → Prop) (No : Hp → Prop), (f x = true → ∀ (y : V) (H2 : Hp), Same H' H2 → R H2 y x → Yes y H2) → (f x = false → ∀ (H2 : Hp), Same H' H2 → No H2) → Turn g tt te vs σ (en x) H' Yes No)
    (over : ∀ (H' : Hp) (zs : List V), Same H1 H' → H' D = some (.lst zs) → Rws R H' zs (L.filter f) → Qd H') :
    ∃ W : Nat → Nat → Hp → Prop, (∃ m, W 0 m (upd H1 D (.lst []))) ∧ ∀ i m H, W i m H →
      ((Itl K a).stop i H ∧ Qd H) ∨ ((Itl K a).go i H ∧ ∃ Nx : Hp → Prop, (∀ H', Nx H' → ∃ m', m' < m ∧ W (i + 1) m' H') ∧ ∀ x H', (Itl K a).yld i H x H' → g x (wipe σ vs) H' fun σ2 H2 => wipe σ2 vs = wipe σ vs ∧ tt σ2 H2 fun b H3 =>
        if b = true then te σ2 H3 fun y H4 => ∃ acc, H4 D = some (.lst acc) ∧ acc.length < sizeLine ∧ Nx (upd H4 D (.lst (acc ++ [y]))) else Nx H3) :=
  bu_list (K := K) (a := a) (xs := xs) L en f R (JS H1 D) mono hx hlen (JS.start hD) (fun H' j => SqL.same j.1 hl) (JS.put hD)
    (fun i x H' hx' j _ Yes No y n => turn i x H' hx' j.1 Yes No (fun hf v H2 s r => y hf v H2 (j.go s).1 (TK.of_same s) (j.go s).2 r) fun hf H2 s => n hf H2 (j.go s).1 (TK.of_same s) (j.go s).2)
    fun H' zs j hz hR => over H' zs j.1 hz hR
theorem fiS_tup (el : α → V) (hl : SqT K H1 a xs) (hx : xs = L.map en) (hlen : L.length ≤ 1000) (hD : H1 D = none)
    (turn : ∀ (i : Nat) (x : α) (H' : Hp), L[i]? = some x → Same H1 H' → ∀ (Yes : V → Hp → Prop) (No : Hp → Prop), (f x = true → ∀ (H2 : Hp), Same H' H2 → Yes (el x) H2) → (f x = false → ∀ (H2 : Hp), Same H' H2 → No H2) → Turn g tt te vs σ (en x) H' Yes No)
    (over : ∀ (H' : Hp), Same H1 H' → H' D = some (.lst ((L.filter f).map el)) → Qd H') :
    ∃ W : Nat → Nat → Hp → Prop, (∃ m, W 0 m (upd H1 D (.lst []))) ∧ ∀ i m H, W i m H →
      ((Itt K a).stop i H ∧ Qd H) ∨ ((Itt K a).go i H ∧ ∃ Nx : Hp → Prop, (∀ H', Nx H' → ∃ m', m' < m ∧ W (i + 1) m' H') ∧ ∀ x H', (Itt K a).yld i H x H' → g x (wipe σ vs) H' fun σ2 H2 => wipe σ2 vs = wipe σ vs ∧ tt σ2 H2 fun b H3 =>
        if b = true then te σ2 H3 fun y H4 => ∃ acc, H4 D = some (.lst acc) ∧ acc.length < sizeLine ∧ Nx (upd H4 D (.lst (acc ++ [y]))) else Nx H3) :=
  buS_tup (K := K) (a := a) (xs := xs) L en f (fun _ v x => v = el x) (fun _ h => h) hl hx hlen hD
    (fun i x H' hx' s Yes No y n => turn i x H' hx' s Yes No (fun hf H2 s2 => y hf _ H2 s2 rfl) n)
    fun H' zs s hz hR => over H' s (by rw [← hR.el]; exact hz)
theorem fiS_list (el : α → V) (hl : SqL K H1 a xs) (hx : xs = L.map en) (hlen : L.length ≤ 1000) (hD : H1 D = none)
    (turn : ∀ (i : Nat) (x : α) (H' : Hp), L[i]? = some x → Same H1 H' → ∀ (Yes : V → Hp → Prop) (No : Hp → Prop), (f x = true → ∀ (H2 : Hp), Same H' H2 → Yes (el x) H2) → (f x = false → ∀ (H2 : Hp), Same H' H2 → No H2) → Turn g tt te vs σ (en x) H' Yes No)
    (over : ∀ (H' : Hp), Same H1 H' → H' D = some (.lst ((L.filter f).map el)) → Qd H') :
    ∃ W : Nat → Nat → Hp → Prop, (∃ m, W 0 m (upd H1 D (.lst []))) ∧ ∀ i m H, W i m H →
      ((Itl K a).stop i H ∧ Qd H) ∨ ((Itl K a).go i H ∧ ∃ Nx : Hp → Prop, (∀ H', Nx H' → ∃ m', m' < m ∧ W (i + 1) m' H') ∧ ∀ x H', (Itl K a).yld i H x H' → g x (wipe σ vs) H' fun σ2 H2 => wipe σ2 vs = wipe σ vs ∧ tt σ2 H2 fun b H3 =>
        if b = true then te σ2 H3 fun y H4 => ∃ acc, H4 D = some (.lst acc) ∧ acc.length < sizeLine ∧ Nx (upd H4 D (.lst (acc ++ [y]))) else Nx H3) :=
  buS_list (K := K) (a := a) (xs := xs) L en f (fun _ v x => v = el x) (fun _ h => h) hl hx hlen hD
    (fun i x H' hx' s Yes No y n => turn i x H' hx' s Yes No (fun hf H2 s2 => y hf _ H2 s2 rfl) n)
    fun H' zs s hz hR => over H' s (by rw [← hR.el]; exact hz)
theorem buS_range {lo : Int} {n : Nat} (f : Nat → Bool) (R : Hp → V → Nat → Prop) (mono : ∀ {H H' : Hp} {v : V} {x : Nat}, TK H H' → R H v x → R H' v x) (hlen : n ≤ 1000) (hD : H1 D = none)
    (turn : ∀ (i : Nat) (H' : Hp), i < n → Same H1 H' → ∀ (Yes : V → Hp → Prop) (No : Hp → Prop), (f i = true → ∀ (y : V) (H2 : Hp), Same H' H2 → R H2 y i → Yes y H2) → (f i = false → ∀ (H2 : Hp), Same H' H2 → No H2) → Turn g tt te vs σ (.int (lo + (i : Nat))) H' Yes No)
    (over : ∀ (H' : Hp) (zs : List V), Same H1 H' → H' D = some (.lst zs) → Rws R H' zs ((List.range n).filter f) → Qd H') :
    ∃ W : Nat → Nat → Hp → Prop, (∃ m, W 0 m (upd H1 D (.lst []))) ∧ ∀ i m H, W i m H →
      ((Itr lo n).stop i H ∧ Qd H) ∨ ((Itr lo n).go i H ∧ ∃ Nx : Hp → Prop, (∀ H', Nx H' → ∃ m', m' < m ∧ W (i + 1) m' H') ∧ ∀ x H', (Itr lo n).yld i H x H' → g x (wipe σ vs) H' fun σ2 H2 => wipe σ2 vs = wipe σ vs ∧ tt σ2 H2 fun b H3 =>
        if b = true then te σ2 H3 fun y H4 => ∃ acc, H4 D = some (.lst acc) ∧ acc.length < sizeLine ∧ Nx (upd H4 D (.lst (acc ++ [y]))) else Nx H3) :=
  bu_range f R (JS H1 D) mono hlen (JS.start hD) (JS.put hD)
    (fun i H' hx' j _ Yes No y n => turn i H' hx' j.1 Yes No (fun hf v H2 s r => y hf v H2 (j.go s).1 (TK.of_same s) (j.go s).2 r) fun hf H2 s => n hf H2 (j.go s).1 (TK.of_same s) (j.go s).2)
    fun H' zs j hz hR => over H' zs j.1 hz hR
theorem fiS_range {lo : Int} {n : Nat} (f : Nat → Bool) (el : Nat → V) (hlen : n ≤ 1000) (hD : H1 D = none)
    (turn : ∀ (i : Nat) (H' : Hp), i < n → Same H1 H' → ∀ (Yes : V → Hp → Prop) (No : Hp → Prop), (f i = true → ∀ (H2 : Hp), Same H' H2 → Yes (el i) H2) → (f i = false → ∀ (H2 : Hp), Same H' H2 → No H2) → Turn g tt te vs σ (.int (lo + (i : Nat))) H' Yes No)
    (over : ∀ (H' : Hp), Same H1 H' → H' D = some (.lst (((List.range n).filter f).map el)) → Qd H') :
    ∃ W : Nat → Nat → Hp → Prop, (∃ m, W 0 m (upd H1 D (.lst []))) ∧ ∀ i m H, W i m H →
      ((Itr lo n).stop i H ∧ Qd H) ∨ ((Itr lo n).go i H ∧ ∃ Nx : Hp → Prop, (∀ H', Nx H' → ∃ m', m' < m ∧ W (i + 1) m' H') ∧ ∀ x H', (Itr lo n).yld i H x H' → g x (wipe σ vs) H' fun σ2 H2 => wipe σ2 vs = wipe σ vs ∧ tt σ2 H2 fun b H3 =>
        if b = true then te σ2 H3 fun y H4 => ∃ acc, H4 D = some (.lst acc) ∧ acc.length < sizeLine ∧ Nx (upd H4 D (.lst (acc ++ [y]))) else Nx H3) :=
  buS_range f (fun _ v x => v = el x) (fun _ h => h) hlen hD
    (fun i H' hx' s Yes No y n => turn i H' hx' s Yes No (fun hf H2 s2 => y hf _ H2 s2 rfl) n)
    fun H' zs s hz hR => over H' s (by rw [← hR.el]; exact hz)
end
theorem filter_all {α : Type} (L : List α) : L.filter (fun _ => true) = L := List.filter_eq_self.mpr fun _ _ => rfl
/-- a test that is known -/
theorem if_known {c : Bool} {A B : Prop} (yes : c = true → A) (no : c = false → B) : if c = true then A else B := by
  cases c with
  | true => exact if_true_of rfl (yes rfl)
  | false => exact if_false_of rfl (no rfl)
end Td
/-! == of two dicts that hold data. -/
namespace Td
open PySem PySem.Spec PyProof.Rows L2
/-- one dict's values against the other's -/
def hitsV (K : PySem.W.Frag) (H : Hp) (ls : List (Key × V)) : List (Key × V) → Bool → Prop
  | [], r => r = true
  | p :: ps, r => ∃ (u : V) (d e : PyData) (r' : Bool), valV ls p.1 = some u ∧ Dp K H p.2 d ∧ Dp K H u e ∧ d.canLay0 = true ∧ e.canLay0 = true ∧ d.depth ≤ 60 ∧ hitsV K H ls ps r' ∧ r = (PyData.eqv d e && r')
def rEqK (K : PySem.W.Frag) : R2 := fun x y H Q => ∃ (a b : Addr) (ks ls : List (Key × V)) (r : Bool), x = .ref a ∧ y = .ref b ∧ H a = some (.dK ks) ∧ H b = some (.dK ls) ∧ ks.length = ls.length ∧ hitsV K H ls ks r ∧ Q (.bl r) H
section
variable {X : Cx} {pins : List (Addr × Obj)} {σ : L2.St} {H : Hp} {s : Shared}
theorem hits_data (I : Inv X pins σ H s) {A : Around} (hu : A.units + 60 < cLine) {ls : List (Key × V)} {vb : List (Key × Value)} (rb : KV ls vb) : ∀ {ks : List (Key × V)} {va : List (Key × Value)} {r : Bool}, KV ks va → hitsV X.K H ls ks r → PySem.W.KeqHitsP X.prog X.w A s vb va r
  | [], _, r, .nil, h => by
    have h : r = true := h
    subst h
    exact .nil
  | p :: ps, _, r, .cons (b := q) h t, hp => by
    obtain ⟨u, d, e, r', e1, d1, d2, c1, c2, l, hr, rfl⟩ := hp
    obtain ⟨h1, h2⟩ := h
    have rr : RelO (some u) (valueAt vb p.1) := by rw [← e1]; exact rb.val p.1
    obtain ⟨y, hy, ry⟩ := rr.some_of
    obtain ⟨key, v⟩ := q
    have h1' : p.1 = key := h1
    rw [h1'] at hy
    obtain ⟨as, g1⟩ := Dp.reads I d p.2 v d1 h2
    obtain ⟨bs, g2⟩ := Dp.reads I e u y d2 ry
    exact .hit hy (SeqAt.EqAt.eqP (SeqAt.eqAt_reads d e A s v y as bs g1 g2 c1 c2 (by have := Nat.min_le_left d.depth e.depth; omega))) (hits_data I hu rb t hr)
theorem op_eqK (hu : X.A.units + 64 < cLine) : OpR X (compareOp .Eq) (rEqK X.K) := by
  intro pins s σ H x y v u Q I rx ry h
  obtain ⟨a, b, ks, ls, r, rfl, rfl, ea, eb, hl, hh, q⟩ := h
  obtain rfl : v = .ref a := rx
  obtain rfl : u = .ref b := ry
  obtain ⟨_, ya, va, ra, da⟩ := dk_of I.hok ea
  obtain ⟨_, yb, vb, rb, db⟩ := dk_of I.hok eb
  refine PySem.W.rcP_dicts (knd := mixKind X.prog X.w) (r := r) ya yb da db (by omega) (fun _ => hits_data I (A := X.A.in1) (by show X.A.units + 1 + 60 < cLine; omega) rb ra hh) _ _ ?_
  have e : (va.length == vb.length && r) = r := by
    have h1 : va.length = vb.length := by rw [← Paired.length ra, ← Paired.length rb, hl]
    rw [h1]; simp
  rw [e]
  exact ⟨.bl r, H, I, rfl, q⟩
end
/-! ### the data of an answer -/
theorem wr_eqv (p q : Str × Str) : PyData.eqv (wrD p) (wrD q) = decide (p = q) := by
  obtain ⟨a, b⟩ := p
  obtain ⟨c, d⟩ := q
  unfold wrD
  simp only [PyData.eqv, PyData.eqvAll, Prod.mk.injEq, Bool.and_true, Bool.decide_and]
  congr 1
theorem env_eqvAll : ∀ L M : Env, PyData.eqvAll (L.map wrD) (M.map wrD) = decide (L = M)
  | [], [] => rfl
  | [], _ :: _ => rfl
  | _ :: _, [] => rfl
  | p :: L, q :: M => by
    rw [List.map_cons, List.map_cons]
    simp only [PyData.eqvAll, wr_eqv, env_eqvAll L M, List.cons.injEq, Bool.decide_and]
theorem strs_eqvAll : ∀ L M : List Str, PyData.eqvAll (L.map PyData.str) (M.map PyData.str) = decide (L = M)
  | [], [] => rfl
  | [], _ :: _ => rfl
  | _ :: _, [] => rfl
  | p :: L, q :: M => by
    rw [List.map_cons, List.map_cons]
    simp only [PyData.eqvAll, PyData.eqv, strs_eqvAll L M, List.cons.injEq, Bool.decide_and]
    congr 1
theorem nm_ok {z : Str} (h : isNm z = true) : PyData.strOk z = true := by
  unfold isNm at h
  simp only [Bool.and_eq_true] at h
  have h2 := h.2
  unfold PyData.strOk
  rw [← Array.all_toList]
  rw [List.all_eq_true] at h2 ⊢
  intro c hc
  have := h2 c hc
  unfold lowc at this
  simp only [Bool.and_eq_true, decide_eq_true_eq] at this
  exact decide_eq_true (by omega)
theorem env_lay : ∀ L : Env, (∀ p ∈ L, isNm p.1 = true ∧ isNm p.2 = true) → PyData.canLayAll0 (L.map wrD) = true
  | [], _ => rfl
  | p :: L, h => by
    have h1 := h p List.mem_cons_self
    have h2 := env_lay L fun q hq => h q (List.mem_cons_of_mem _ hq)
    rw [List.map_cons]
    unfold wrD at h2 ⊢
    simp only [PyData.canLayAll0, PyData.canLay0, nm_ok h1.1, nm_ok h1.2, h2]
    rfl
theorem strs_lay : ∀ L : List Str, (∀ z ∈ L, isNm z = true) → PyData.canLayAll0 (L.map PyData.str) = true
  | [], _ => rfl
  | p :: L, h => by
    have h2 := strs_lay L fun q hq => h q (List.mem_cons_of_mem _ hq)
    rw [List.map_cons]
    simp only [PyData.canLayAll0, PyData.canLay0, nm_ok (h p List.mem_cons_self), h2]
    rfl
theorem env_deep : ∀ L : Env, PyData.depthAll (L.map wrD) ≤ 2
  | [] => by simp [PyData.depthAll]
  | p :: L => by
    rw [List.map_cons]
    unfold wrD
    have := env_deep L
    unfold wrD at this
    simp only [PyData.depthAll, PyData.depth]
    omega
theorem strs_deep : ∀ L : List Str, PyData.depthAll (L.map PyData.str) ≤ 2
  | [] => by simp [PyData.depthAll]
  | p :: L => by
    rw [List.map_cons]
    have := strs_deep L
    simp only [PyData.depthAll, PyData.depth]
    omega
/-! ### all that a run holds are names -/
structure RS.Nm (st : RS) : Prop where
  sl : ∀ p ∈ st.slots, isNm p.2 = true
  no : ∀ p ∈ st.noted, isNm p.1 = true ∧ isNm p.2 = true
  pe : ∀ p ∈ st.peeked, isNm p.1 = true ∧ isNm p.2 = true
  sa : ∀ z ∈ st.said, isNm z = true
  wr : ∀ p ∈ st.written, isNm p.1 = true ∧ isNm p.2 = true
  gi : isNm st.given = true
structure ScNm (S : Sc) (kn : Str → Str) : Prop where
  rd : ∀ c ∈ S.readable, isNm c = true ∧ isNm (kn c) = true
  so : ∀ c ∈ S.sources, isNm c = true
  wo : ∀ c ∈ S.words, isNm c = true
theorem put_mem {L : Env} {k v : Str} {p : Str × Str} (h : p ∈ putE L k v) : p ∈ L ∨ (p.1 = k ∧ p.2 = v) := by
  unfold putE at h
  split at h
  · obtain ⟨q, hq, e⟩ := List.mem_map.mp h
    split at e
    · rename_i e2
      subst e
      exact .inr ⟨e2, rfl⟩
    · subst e; exact .inl hq
  · rcases List.mem_append.mp h with h | h
    · exact .inl h
    · rw [List.mem_singleton] at h
      subst h
      exact .inr ⟨rfl, rfl⟩
theorem sd_mem {L : Env} {k v : Str} {p : Str × Str} (h : p ∈ sdE L k v) : p ∈ L ∨ (p.1 = k ∧ p.2 = v) := by
  unfold sdE at h
  split at h
  · exact .inl h
  · exact put_mem h
theorem get_has {L : Env} {k u : Str} (h : getE L k = some u) : ∃ p ∈ L, p.2 = u := by
  unfold getE at h
  obtain ⟨p, hp, e⟩ := Option.map_eq_some_iff.mp h
  exact ⟨p, List.mem_of_find?_eq_some hp, e⟩
theorem word_nm {st : RS} {d s : Str} (h : st.Nm) (hd : isNm d = true) : isNm (st.word d s) = true := by
  unfold RS.word
  cases e : getE st.slots s with
  | none => exact hd
  | some u =>
    obtain ⟨p, hp, rfl⟩ := get_has e
    exact h.sl p hp
mutual
theorem nm_R {S : Sc} {kn : Str → Str} {d : Str} (hS : ScNm S kn) (hd : isNm d = true) : ∀ (r : Row) (dep : Nat) (st : RS), okR S dep r → st.Nm → (runR kn d r st).1.Nm
  | .rd pk c s, dep, st, ok, h => by
    unfold okR at ok
    obtain ⟨c1, c2⟩ := hS.rd c ok.2.1
    have hs : ∀ p ∈ putE st.slots s (kn c), isNm p.2 = true := fun p hp => by
      rcases put_mem hp with q | ⟨_, e⟩
      · exact h.sl p q
      · rw [e]; exact c2
    have hg : ∀ L : Env, (∀ p ∈ L, isNm p.1 = true ∧ isNm p.2 = true) → ∀ p ∈ sdE L c (kn c), isNm p.1 = true ∧ isNm p.2 = true := fun L hL p hp => by
      rcases sd_mem hp with q | ⟨e1, e2⟩
      · exact hL p q
      · rw [e1, e2]; exact ⟨c1, c2⟩
    simp only [runR]
    cases pk
    · exact ⟨hs, hg _ h.no, h.pe, h.sa, h.wr, h.gi⟩
    · exact ⟨hs, h.no, hg _ h.pe, h.sa, h.wr, h.gi⟩
  | .put s u, dep, st, ok, h => by
    unfold okR at ok
    simp only [runR]
    refine ⟨fun p hp => ?_, h.no, h.pe, h.sa, h.wr, h.gi⟩
    rcases put_mem hp with q | ⟨_, e⟩
    · exact h.sl p q
    · rw [e]; exact hS.wo u ok.2
  | .give s, dep, st, ok, h => by
    simp only [runR]
    exact ⟨h.sl, h.no, h.pe, h.sa, h.wr, word_nm h hd⟩
  | .say s, dep, st, ok, h => by
    simp only [runR]
    refine ⟨h.sl, h.no, h.pe, fun z hz => ?_, h.wr, h.gi⟩
    rcases List.mem_append.mp hz with q | q
    · exact h.sa z q
    · rw [List.mem_singleton.mp q]; exact word_nm h hd
  | .wr c s, dep, st, ok, h => by
    unfold okR at ok
    simp only [runR]
    refine ⟨h.sl, h.no, h.pe, h.sa, fun p hp => ?_, h.gi⟩
    rcases List.mem_append.mp hp with q | q
    · exact h.wr p q
    · rw [List.mem_singleton.mp q]; exact ⟨hS.so c ok.2.1, word_nm h hd⟩
  | .ite s u y n, dep, st, ok, h => by
    unfold okR at ok
    simp only [runR]
    split
    · exact nm_Rs hS hd y (dep + 1) st ok.2.2.2.1 h
    · exact nm_Rs hS hd n (dep + 1) st ok.2.2.2.2 h
theorem nm_Rs {S : Sc} {kn : Str → Str} {d : Str} (hS : ScNm S kn) (hd : isNm d = true) : ∀ (rs : List Row) (dep : Nat) (st : RS), okRs S dep rs → st.Nm → (runRs kn d rs st).1.Nm
  | [], dep, st, ok, h => by simp only [runRs]; exact h
  | r :: rs, dep, st, ok, h => by
    unfold okRs at ok
    have h1 := nm_R hS hd r dep st ok.1 h
    by_cases hb : (runR kn d r st).2 = true
    · rw [runRs_yes _ hb]; exact h1
    · rw [runRs_no _ hb]; exact nm_Rs hS hd rs dep _ ok.2 h1
end
end Td
/-! The head's look for a program with a method that opens with super().__init__(). -/
namespace Td
open PySem PySem.Spec PyProof.Rows L2
def frU (n : Nat) (g : Addr → Option Obj) : PySem.W.Frag := He.frT g (cStatics :: He.asD g n)
abbrev FnC : Type := Option (Str × Str × Arguments × FuncBody × Scope × Addr × List Str × Addr)
/-- a function's text, its closure by names alone -/
def fnC (K : PySem.W.Frag) (p : Str × Option Str) : FnC := match K.lookup (He.fAd K p) with
  | some ⟨_, _, .func fd, _⟩ => some (fd.name, fd.qualname, fd.params, fd.body, fd.scope, fd.globals, fd.closure.map (·.1), fd.builtins)
  | _ => none
structure SupD where
  cls : Str
  oth : Str
  qual : Str
  file : Str
  params : Arguments
  body : List Stmt
  scope : Scope
def SupD.at_ (d : SupD) : Str × Option Str := (d.cls, some "__init__")
def SupD.val (d : SupD) : FnC := some ("__init__", d.qual, d.params, .stmts d.body, d.scope, mainGlobals, ["__class__"], builtinsNs)
def cellB (K : PySem.W.Frag) (d : SupD) (l : List (Str × Addr)) : Bool := match l with
  | [q] => (match K.lookup q.2 with
    | some ⟨_, _, .cell (some (.ref D)), _⟩ => decide (D = He.ga K d.cls)
    | _ => false)
  | _ => false
def noneB (v : Value) : Bool := match v with
  | .none => true
  | _ => false
def strB (x : Str) (v : Option Value) : Bool := match v with
  | some (.str f _) => x == f
  | _ => false
def fileB (K : PySem.W.Frag) (d : SupD) (v : Value) : Bool := match v with
  | .ref cda => (match K.lookup cda with
    | some ⟨_, _, .fields vs, _⟩ => strB d.file (vs[2]?)
    | _ => false)
  | _ => false
theorem cellB_ok {K : PySem.W.Frag} {d : SupD} {l : List (Str × Addr)} (h : cellB K d l = true) : ∃ x cc c1 c2 c4, l = [(x, cc)] ∧ K.lookup cc = some ⟨c1, c2, .cell (some (.ref (He.ga K d.cls))), c4⟩ := by
  unfold cellB at h
  split at h
  · rename_i q
    split at h
    · rename_i c1 c2 D c4 e
      exact ⟨q.1, q.2, c1, c2, c4, rfl, by rw [e, of_decide_eq_true h]⟩
    · cases h
  · cases h
theorem noneB_ok {v : Value} (h : noneB v = true) : v = .none := by
  cases v with
  | none => rfl
  | _ => cases h
theorem strB_ok {x : Str} {v : Option Value} (h : strB x v = true) : ∃ f t, v = some (.str f t) ∧ (x == f) = true := by
  unfold strB at h
  split at h
  · rename_i f t
    exact ⟨f, t, rfl, h⟩
  · cases h
theorem fileB_ok {K : PySem.W.Frag} {d : SupD} {v : Value} (h : fileB K d v = true) : ∃ cda f1 f2 vs f4 f t, v = .ref cda ∧ K.lookup cda = some ⟨f1, f2, .fields vs, f4⟩ ∧ vs[2]? = some (.str f t) ∧ (d.file == f) = true := by
  unfold fileB at h
  split at h
  · rename_i cda
    split at h
    · rename_i f1 f2 vs f4 e
      obtain ⟨f, t, h1, h2⟩ := strB_ok h
      exact ⟨cda, f1, f2, vs, f4, f, t, rfl, e, h1, h2⟩
    · cases h
  · cases h
def supFn (K : PySem.W.Frag) (d : SupD) : Bool := match K.lookup (He.fAd K d.at_) with
  | some ⟨_, _, .func fd, _⟩ => cellB K d fd.closure && (noneB fd.defaults && (fileB K d fd.code && PySem.W.codeIn K fd.code d.qual))
  | _ => false
def supB (K : PySem.W.Frag) (d : SupD) : Bool := supFn K d && ((PySem.W.clsIn K (He.ga K d.cls)).isSome && (decide (PySem.W.mroIn K (He.ga K d.cls) (.ref (He.ga K d.cls)) = some true) && (He.eqO (PySem.W.ks_superIn K (He.ga K d.cls) (He.ga K d.cls) "__init__") (some (some (.ref (He.fAd K (d.oth, some "__init__"))))) &&
  (decide (PySem.W.typeIn K (.ref (He.fAd K (d.oth, some "__init__"))) = some (.type "function")) && (PySem.W.fnIn K (He.fAd K (d.oth, some "__init__")) && (He.eqO (PySem.W.nsIn K cStatics "thirdparty.any") (some none) && (He.eqO (PySem.W.nsIn K mainGlobals "super") (some none) && PySem.W.keepIn K (.ref (He.fAd K d.at_)))))))))
theorem sup_of {P : Program} {K : PySem.W.Frag} {d : SupD} {st : Stmt} (hp : d.params = defArgs st) (hb : d.body = defBody st) (hs : d.scope = defScope st) (hf : P.main.file = d.file) (e : fnC K d.at_ = d.val) (c : supB K d = true) :
    ∃ fd, Sup P K d.qual st (He.fAd K d.at_) (He.ga K d.cls) (He.fAd K (d.oth, some "__init__")) fd := by
  obtain ⟨c1, c⟩ := He.ba c
  obtain ⟨c2, c⟩ := He.ba c
  obtain ⟨c3, c⟩ := He.ba c
  obtain ⟨c4, c⟩ := He.ba c
  obtain ⟨c5, c⟩ := He.ba c
  obtain ⟨c6, c⟩ := He.ba c
  obtain ⟨c7, c⟩ := He.ba c
  obtain ⟨c8, c9⟩ := He.ba c
  unfold supFn at c1
  unfold fnC at e
  cases q : K.lookup (He.fAd K d.at_) with
  | none => rw [q] at e; cases e
  | some o =>
    obtain ⟨oc, od, dt, osl⟩ := o
    rw [q] at e c1
    cases dt with
    | func fd =>
      obtain ⟨n1, n2, n3, n4, n5, n6, n7, n8, n9, n10, n11, n12, n13, n14, n15⟩ := fd
      have e2 : (some (n1, n2, n3, n4, n5, n6, n7.map (·.1), n15) : FnC) = d.val := e
      unfold SupD.val at e2
      simp only [Option.some.injEq, Prod.mk.injEq] at e2
      obtain ⟨h1, h2, h3, h4, h5, h6, h7, h8⟩ := e2
      obtain ⟨d1, d2⟩ := He.ba c1
      obtain ⟨d3, d4⟩ := He.ba d2
      obtain ⟨d5, d6⟩ := He.ba d4
      obtain ⟨x1, cc, k1, k2, k4, hl, hcc⟩ := cellB_ok d1
      obtain ⟨cda, f1, f2, vs, f4, f, tf, hcode, hcda, hv, hfile⟩ := fileB_ok d5
      have hd := noneB_ok d3
      dsimp only at hl hcode hd d6
      subst hl
      have hx : x1 = "__class__" := by simpa using h7
      subst hx h1 h2 h3 h4 h5 h6 h8 hcode hd
      obtain ⟨cd, hcd⟩ := Option.isSome_iff_exists.mp c2
      refine ⟨_, ⟨oc, od, osl, n9, n10, n11, n12, n14, cc, cda, f1, f2, vs, f4, f, tf, k1, k2, k4, rfl, ?_, d6, hcda, hv, by rw [hf]; exact hfile, hcc⟩, ⟨cd, hcd⟩, of_decide_eq_true c3, He.eqO_ok c4, of_decide_eq_true c5, c6, He.eqO_ok c7, He.eqO_ok c8, c9⟩
      rw [← hp, ← hb, ← hs]
      exact q
    | _ => cases e
/-! ### the Hook -/
abbrev AlU : Type := He.AlT × (Bool × List FnC)
def obsU (n : Nat) (fa : List He.Fa) (fn : List He.DefD) (ts : List He.Tab) (us : List SupD) (ex : PySem.W.Frag → Bool) (g : Addr → Option Obj) : AlU := (He.obsT fa fn ts (frU n g), (ex (frU n g) && us.all (supB (frU n g)), us.map fun d => fnC (frU n g) d.at_))
def valU (fn : List He.DefD) (ts : List He.Tab) (us : List SupD) (w : World) : AlU := (He.valT fn ts w, (true, us.map SupD.val))
structure SaysU (fa : List He.Fa) (fn : List He.DefD) (ts : List He.Tab) (us : List SupD) (ex : PySem.W.Frag → Bool) (w : World) (K : PySem.W.Frag) : Prop where
  t : He.SaysT fa fn ts w K
  more : ex K = true
  us : ∀ d ∈ us, supB K d = true ∧ fnC K d.at_ = d.val
theorem saysU_of {n : Nat} {fa : List He.Fa} {fn : List He.DefD} {ts : List He.Tab} {us : List SupD} {ex : PySem.W.Frag → Bool} {w : World} {g : Addr → Option Obj} (e : obsU n fa fn ts us ex g = valU fn ts us w) : SaysU fa fn ts us ex w (frU n g) := by
  have e1 : He.obsT fa fn ts (frU n g) = He.valT fn ts w := congrArg (fun z : AlU => z.1) e
  have e2 : (ex (frU n g) && us.all (supB (frU n g))) = true := congrArg (fun z : AlU => z.2.1) e
  have e3 : (us.map fun d => fnC (frU n g) d.at_) = us.map SupD.val := congrArg (fun z : AlU => z.2.2) e
  obtain ⟨a, b⟩ := He.ba e2
  refine ⟨e1, a, fun d hd => ⟨List.all_eq_true.mp b d hd, ?_⟩⟩
  exact List.map_inj_left.mp e3 d hd
def hookU (n : Nat) (fa : List He.Fa) (fn : List He.DefD) (ts : List He.Tab) (us : List SupD) (ex : PySem.W.Frag → Bool) : PySem.W.Hook where
  α := AlU
  obs := fun s => obsU n fa fn ts us ex s.heap.get?
  val := fun w => valU fn ts us w
  says := fun w h => ∃ K : PySem.W.Frag, K.In h ∧ SaysU fa fn ts us ex w K
  of := fun _ _ e => ⟨_, He.frT_in, saysU_of e⟩
  keeps := fun _ _ _ ⟨K, hK, c⟩ k => ⟨K, PySem.W.Frag.In.keeps hK k, c⟩
theorem obsU_eq {n : Nat} {fa : List He.Fa} {fn : List He.DefD} {ts : List He.Tab} {us : List SupD} {ex : PySem.W.Frag → Bool} {g : Addr → Option Obj} {s : Shared} (h : ∀ a, g a = s.heap.get? a) : obsU n fa fn ts us ex g = (hookU n fa fn ts us ex).obs s := by
  have e : g = s.heap.get? := funext h
  rw [e] <;> rfl
end Td
/-! The head's look over a list of places that is written out. -/
namespace Td
open PySem PySem.Spec PyProof.Rows L2
def obsV (as : List Addr) (fa : List He.Fa) (fn : List He.DefD) (ts : List He.Tab) (us : List SupD) (ex : PySem.W.Frag → Bool) (g : Addr → Option Obj) : AlU := (He.obsT fa fn ts (He.frT g as), (ex (He.frT g as) && us.all (supB (He.frT g as)), us.map fun d => fnC (He.frT g as) d.at_))
theorem saysV_of {as : List Addr} {fa : List He.Fa} {fn : List He.DefD} {ts : List He.Tab} {us : List SupD} {ex : PySem.W.Frag → Bool} {w : World} {g : Addr → Option Obj} (e : obsV as fa fn ts us ex g = valU fn ts us w) : SaysU fa fn ts us ex w (He.frT g as) := by
  have e1 : He.obsT fa fn ts (He.frT g as) = He.valT fn ts w := congrArg (fun z : AlU => z.1) e
  have e2 : (ex (He.frT g as) && us.all (supB (He.frT g as))) = true := congrArg (fun z : AlU => z.2.1) e
  have e3 : (us.map fun d => fnC (He.frT g as) d.at_) = us.map SupD.val := congrArg (fun z : AlU => z.2.2) e
  obtain ⟨a, b⟩ := He.ba e2
  exact ⟨e1, a, fun d hd => ⟨List.all_eq_true.mp b d hd, List.map_inj_left.mp e3 d hd⟩⟩
def hookV (as : List Addr) (fa : List He.Fa) (fn : List He.DefD) (ts : List He.Tab) (us : List SupD) (ex : PySem.W.Frag → Bool) : PySem.W.Hook where
  α := AlU
  obs := fun s => obsV as fa fn ts us ex s.heap.get?
  val := fun w => valU fn ts us w
  says := fun w h => ∃ K : PySem.W.Frag, K.In h ∧ SaysU fa fn ts us ex w K
  of := fun _ _ e => ⟨_, He.frT_in, saysV_of e⟩
  keeps := fun _ _ _ ⟨K, hK, c⟩ k => ⟨K, PySem.W.Frag.In.keeps hK k, c⟩
theorem obsV_eq {as : List Addr} {fa : List He.Fa} {fn : List He.DefD} {ts : List He.Tab} {us : List SupD} {ex : PySem.W.Frag → Bool} {g : Addr → Option Obj} {s : Shared} (h : ∀ a, g a = s.heap.get? a) : obsV as fa fn ts us ex g = (hookV as fa fn ts us ex).obs s := by
  have e : g = s.heap.get? := funext h
  rw [e] <;> rfl
end Td
/-! The head's look for own exceptions of one field. -/
namespace Td
open PySem PySem.Spec PyProof.Rows L2
def mroVE (C : Addr) : List Value → Bool
  | .ref D :: bm => decide (D = C) && PySem.HandSPX.refsVE bm
  | _ => false
theorem mroVE_ok {C : Addr} {l : List Value} (h : mroVE C l = true) : ∃ bm, l = .ref C :: bm ∧ PySem.HandSPX.refsVE bm = true := by
  unfold mroVE at h
  split at h
  · rename_i D bm
    obtain ⟨h1, h2⟩ := He.ba h
    exact ⟨bm, by rw [of_decide_eq_true h1], h2⟩
  · cases h
def newVE : List (Option Value) → Bool
  | [_, _, _, _, some (.builtin n), _] => n == "ValueError.__new__"
  | _ => false
theorem newVE_ok {l : List (Option Value)} (h : newVE l = true) : ∃ k0 k1 k2 k3 k5, l = [k0, k1, k2, k3, some (.builtin "ValueError.__new__"), k5] := by
  unfold newVE at h
  split at h
  · rename_i k0 k1 k2 k3 n k5
    exact ⟨k0, k1, k2, k3, k5, by rw [of_decide_eq_true h]⟩
  · cases h
def oexCls (K : PySem.W.Frag) (C : Addr) : Bool := match K.lookup C with
  | some ⟨.type "type", _, .cls cd, sl⟩ => cd.hasDict && (!cd.hasDel && (mroVE C cd.mro && newVE sl.toList))
  | _ => false
def oexB (K : PySem.W.Frag) (C : Addr) : Bool := oexCls K C && (He.eqO (PySem.W.findIn K (.ref C) "__setattr__") (some (some (.builtin "object.__setattr__"))) && (decide (PySem.W.subIn K (.ref C) (.type "BaseException") = some true) && (decide (PySem.W.typeIn K (.ref C) = some (.type "type")) && PySem.W.keepIn K (.ref C))))
theorem oexB_ok {K : PySem.W.Frag} {C : Addr} (h : oexB K C = true) : OexC K C := by
  obtain ⟨c1, h⟩ := He.ba h
  obtain ⟨c2, h⟩ := He.ba h
  obtain ⟨c3, h⟩ := He.ba h
  obtain ⟨c4, c5⟩ := He.ba h
  refine ⟨?_, He.eqO_ok c2, of_decide_eq_true c3, of_decide_eq_true c4, c5⟩
  unfold oexCls at c1
  split at c1
  · rename_i dd cd sl e
    obtain ⟨d1, c1⟩ := He.ba c1
    obtain ⟨d2, c1⟩ := He.ba c1
    obtain ⟨d3, d4⟩ := He.ba c1
    obtain ⟨bm, em, hm⟩ := mroVE_ok d3
    obtain ⟨k0, k1, k2, k3, k5, es⟩ := newVE_ok d4
    obtain ⟨nm, bs, mro, ns, qn, hd, sn, sb, ab, col, del⟩ := cd
    obtain ⟨sl⟩ := sl
    dsimp only at d1 d2 em es
    subst em es d1
    have d2' : del = false := by simpa using d2
    subst d2'
    exact ⟨nm, qn, ns, bs, bm, sn, sb, ab, col, dd, k0, k1, k2, k3, k5, e, hm⟩
  · cases c1
/-- an own exception class, its __init__ and its one field -/
def excB (K : PySem.W.Frag) (x f : Str) : Bool := oexB K (He.ga K x) && (He.eqO (PySem.W.findIn K (.ref (He.ga K x)) "__init__") (some (some (.ref (He.fAd K (x, some "__init__"))))) && (decide (PySem.W.typeIn K (.ref (He.fAd K (x, some "__init__"))) = some (.type "function")) && (He.eqO (PySem.W.findIn K (.ref (He.ga K x)) f) (some none) && xfB K (He.ga K x))))
theorem excB_ok {K : PySem.W.Frag} {x f : Str} (h : excB K x f = true) : OexC K (He.ga K x) ∧ PySem.W.findIn K (.ref (He.ga K x)) "__init__" = some (some (.ref (He.fAd K (x, some "__init__")))) ∧ PySem.W.typeIn K (.ref (He.fAd K (x, some "__init__"))) = some (.type "function") ∧
    PySem.W.findIn K (.ref (He.ga K x)) f = some none ∧ XfC K (He.ga K x) := by
  obtain ⟨c1, h⟩ := He.ba h
  obtain ⟨c2, h⟩ := He.ba h
  obtain ⟨c3, h⟩ := He.ba h
  obtain ⟨c4, c5⟩ := He.ba h
  exact ⟨oexB_ok c1, He.eqO_ok c2, of_decide_eq_true c3, He.eqO_ok c4, xfB_ok c5⟩
end Td
/-! The head's look for isinstance of caught errors, of own objects, and for own ==. -/
namespace Td
open PySem PySem.Spec PyProof.Rows L2
def clsB (K : PySem.W.Frag) (C : Addr) : Bool := He.eqO (PySem.W.findIn K (.ref C) "__class__") (some (some (.builtin "object.__class__"))) && (He.eqO (PySem.W.specialIn K (.builtin "object.__class__") "__get__") (some (some (.builtin "getset_descriptor.__get__"))) &&
  (decide (PySem.W.takesIn K (.builtin "object.__class__") = some true) && decide (PySem.W.mroIn K C (.type "object") = some true)))
def askB (K : PySem.W.Frag) (C : Addr) : Bool := clsB K C && (He.eqO (PySem.W.findIn K (.ref C) "__getattribute__") (some (some (.builtin "BaseException.__getattribute__"))) && (He.eqO (PySem.W.findIn K (.ref C) "__getattr__") (some none) &&
  (decide (PySem.W.subIn K (.ref C) (.type "BaseException") = some true) && PySem.W.hasDictIn K C)))
theorem askB_ok {K : PySem.W.Frag} {C : Addr} (h : askB K C = true) : ExcC K C := by
  obtain ⟨c0, h⟩ := He.ba h
  obtain ⟨c1, h⟩ := He.ba h
  obtain ⟨c2, h⟩ := He.ba h
  obtain ⟨c3, c4⟩ := He.ba h
  obtain ⟨d1, d⟩ := He.ba c0
  obtain ⟨d2, d⟩ := He.ba d
  obtain ⟨d3, d4⟩ := He.ba d
  exact ⟨He.eqO_ok c1, He.eqO_ok c2, of_decide_eq_true c3, c4, He.eqO_ok d1, He.eqO_ok d2, of_decide_eq_true d3, of_decide_eq_true d4⟩
def ownB (K : PySem.W.Frag) (C : Addr) : Bool := clsB K C && decide (PySem.W.kitOne K (.ref C) (.ref C) = some true)
theorem ownB_ok {K : PySem.W.Frag} {C : Addr} (l : Cls K C) (h : ownB K C = true) : C8.InsC K C := by
  obtain ⟨c0, c1⟩ := He.ba h
  obtain ⟨d1, d⟩ := He.ba c0
  obtain ⟨d2, d⟩ := He.ba d
  obtain ⟨d3, d4⟩ := He.ba d
  exact ⟨l, He.eqO_ok d1, He.eqO_ok d2, of_decide_eq_true d3, of_decide_eq_true d4, of_decide_eq_true c1⟩
def kitB (K : PySem.W.Frag) (t u : Value) (b : Bool) : Bool := decide (PySem.W.kitOne K t u = some b)
end Td
/-! A written tuple of texts, read at the head. -/
namespace Td
open PySem PySem.Spec PyProof.Rows L2
def strsB : List Str → List Value → Bool
  | [], [] => true
  | z :: zs, .str y _ :: us => decide (y = z) && strsB zs us
  | _, _ => false
theorem strsB_ok : ∀ {zs : List Str} {us : List Value}, strsB zs us = true → Vals (zs.map V.str) us
  | [], [], _ => .nil
  | z :: zs, .str y t :: us, h => by
    obtain ⟨h1, h2⟩ := He.ba (show (decide (y = z) && strsB zs us) = true from h)
    obtain rfl := of_decide_eq_true h1
    exact .cons ⟨t, rfl⟩ (strsB_ok h2)
def tupB (K : PySem.W.Frag) (a : Addr) (zs : List Str) : Bool := match K.lookup a with
  | some o => decide (o.cls = .type "tuple") && (match o.data with
    | .seq its _ => decide (its.size ≤ 1000) && strsB zs its.toList
    | _ => false)
  | none => false
theorem tupB_ok {K : PySem.W.Frag} {a : Addr} {zs : List Str} (h : tupB K a zs = true) (H : Hp) : SqT K H a (zs.map V.str) := by
  unfold tupB at h
  cases e : K.lookup a with
  | none => rw [e] at h; cases h
  | some o =>
    rw [e] at h
    obtain ⟨h1, h2⟩ := He.ba h
    cases ed : o.data with
    | seq its n =>
      rw [ed] at h2
      obtain ⟨h3, h4⟩ := He.ba h2
      exact .inr ⟨o, its, n, e, of_decide_eq_true h1, ed, Nat.le_trans (of_decide_eq_true h3) (by decide), strsB_ok h4⟩
    | _ => rw [ed] at h2; cases h2
end Td
namespace K50
open PySem PySem.Spec PyProof.Rows L2 Td
def top (i : Nat) : Stmt := PySem.Challenge.pw_toldonward_k50_verdict_pairs.main.body.getD i (.Pass ⟨0, 0, 0, 0⟩)
abbrev s_InvalidKind_init : Stmt := inClass (top 2) 0
abbrev N_InvalidKind_init : List Str := ["self", "kind"]
theorem sc_InvalidKind_init : FnScope N_InvalidKind_init ["self", "kind"] (defScope s_InvalidKind_init) := ⟨rfl, rfl, rfl, by decide +kernel, rfl, by decide +kernel, by decide +kernel⟩
abbrev s_check_kind : Stmt := top 5
abbrev N_check_kind : List Str := ["kind"]
theorem sc_check_kind : FnScope N_check_kind ["kind"] (defScope s_check_kind) := ⟨rfl, rfl, rfl, by decide +kernel, rfl, by decide +kernel, by decide +kernel⟩
abbrev s_Verdict_init : Stmt := inClass (top 7) 0
abbrev N_Verdict_init : List Str := ["self", "pairs", "kind", "_", "own", "name", "pair_kind", "each"]
theorem sc_Verdict_init : FnScope N_Verdict_init ["self", "pairs"] (defScope s_Verdict_init) := ⟨rfl, rfl, rfl, by decide +kernel, rfl, by decide +kernel, by decide +kernel⟩
abbrev s_Verdict_pairs : Stmt := inClass (top 7) 1
abbrev N_Verdict_pairs : List Str := ["self"]
theorem sc_Verdict_pairs : FnScope N_Verdict_pairs ["self"] (defScope s_Verdict_pairs) := ⟨rfl, rfl, rfl, by decide +kernel, rfl, by decide +kernel, by decide +kernel⟩
abbrev s_Verdict_kinds : Stmt := inClass (top 7) 2
abbrev N_Verdict_kinds : List Str := ["self", "present", "kind", "_"]
theorem sc_Verdict_kinds : FnScope N_Verdict_kinds ["self"] (defScope s_Verdict_kinds) := ⟨rfl, rfl, rfl, by decide +kernel, rfl, by decide +kernel, by decide +kernel⟩
abbrev s_Verdict_only : Stmt := inClass (top 7) 3
abbrev N_Verdict_only : List Str := ["self", "kinds", "pair"]
theorem sc_Verdict_only : FnScope N_Verdict_only ["self", "kinds"] (defScope s_Verdict_only) := ⟨rfl, rfl, rfl, by decide +kernel, rfl, by decide +kernel, by decide +kernel⟩
abbrev s_Verdict_or : Stmt := inClass (top 7) 4
abbrev N_Verdict_or : List Str := ["self", "other"]
theorem sc_Verdict_or : FnScope N_Verdict_or ["self", "other"] (defScope s_Verdict_or) := ⟨rfl, rfl, rfl, by decide +kernel, rfl, by decide +kernel, by decide +kernel⟩
abbrev s_Verdict_and : Stmt := inClass (top 7) 5
abbrev N_Verdict_and : List Str := ["self", "other", "pair"]
theorem sc_Verdict_and : FnScope N_Verdict_and ["self", "other"] (defScope s_Verdict_and) := ⟨rfl, rfl, rfl, by decide +kernel, rfl, by decide +kernel, by decide +kernel⟩
abbrev s_Verdict_sub : Stmt := inClass (top 7) 6
abbrev N_Verdict_sub : List Str := ["self", "other", "pair"]
theorem sc_Verdict_sub : FnScope N_Verdict_sub ["self", "other"] (defScope s_Verdict_sub) := ⟨rfl, rfl, rfl, by decide +kernel, rfl, by decide +kernel, by decide +kernel⟩
abbrev s_Verdict_eq : Stmt := inClass (top 7) 7
abbrev N_Verdict_eq : List Str := ["self", "other"]
theorem sc_Verdict_eq : FnScope N_Verdict_eq ["self", "other"] (defScope s_Verdict_eq) := ⟨rfl, rfl, rfl, by decide +kernel, rfl, by decide +kernel, by decide +kernel⟩
abbrev s_Verdict_len : Stmt := inClass (top 7) 8
abbrev N_Verdict_len : List Str := ["self"]
theorem sc_Verdict_len : FnScope N_Verdict_len ["self"] (defScope s_Verdict_len) := ⟨rfl, rfl, rfl, by decide +kernel, rfl, by decide +kernel, by decide +kernel⟩
abbrev s_Verdict_contains : Stmt := inClass (top 7) 9
abbrev N_Verdict_contains : List Str := ["self", "x"]
theorem sc_Verdict_contains : FnScope N_Verdict_contains ["self", "x"] (defScope s_Verdict_contains) := ⟨rfl, rfl, rfl, by decide +kernel, rfl, by decide +kernel, by decide +kernel⟩
abbrev s_law_state : Stmt := top 9
abbrev N_law_state : List Str := ["_law_script"]
theorem sc_law_state : FnScope N_law_state ["_law_script"] (defScope s_law_state) := ⟨rfl, rfl, rfl, by decide +kernel, rfl, by decide +kernel, by decide +kernel⟩
abbrev s_law_draw : Stmt := top 10
abbrev N_law_draw : List Str := ["_law_state_here", "_law_many", "_law_cell", "_law_digit", "_law_one", "_law_two", "_law_three"]
theorem sc_law_draw : FnScope N_law_draw ["_law_state_here", "_law_many"] (defScope s_law_draw) := ⟨rfl, rfl, rfl, by decide +kernel, rfl, by decide +kernel, by decide +kernel⟩
abbrev s_law_names : Stmt := top 11
abbrev N_law_names : List Str := ["_law_state_here", "_law_many", "_law_place", "_law_first", "_law_same_size", "_law_base", "_law_letters", "_law_names_here", "_law_k", "_law_other", "_law_size", "_law_name", "_law_at"]
theorem sc_law_names : FnScope N_law_names ["_law_state_here", "_law_many"] (defScope s_law_names) := ⟨rfl, rfl, rfl, by decide +kernel, rfl, by decide +kernel, by decide +kernel⟩
abbrev s_law_kinds : Stmt := top 12
abbrev N_law_kinds : List Str := []
theorem sc_law_kinds : FnScope N_law_kinds [] (defScope s_law_kinds) := ⟨rfl, rfl, rfl, by decide +kernel, rfl, by decide +kernel, by decide +kernel⟩
abbrev s_law_pairs : Stmt := top 13
abbrev N_law_pairs : List Str := ["_law_state_here", "_law_names_here", "_law_most_pairs", "_law_kinds_here", "_law_pairs_here", "_law_turn"]
theorem sc_law_pairs : FnScope N_law_pairs ["_law_state_here", "_law_names_here", "_law_most_pairs"] (defScope s_law_pairs) := ⟨rfl, rfl, rfl, by decide +kernel, rfl, by decide +kernel, by decide +kernel⟩
abbrev s_law_ordered : Stmt := top 14
abbrev N_law_ordered : List Str := ["_law_kinds_here", "_law_pairs_here", "_law_names_here", "_law_due", "_law_kind", "_law_name", "_law_pair"]
theorem sc_law_ordered : FnScope N_law_ordered ["_law_kinds_here", "_law_pairs_here"] (defScope s_law_ordered) := ⟨rfl, rfl, rfl, by decide +kernel, rfl, by decide +kernel, by decide +kernel⟩
abbrev s_law_refused : Stmt := top 15
abbrev N_law_refused : List Str := ["_law_pairs_here", "_law_refused_here", "e"]
theorem sc_law_refused : FnScope N_law_refused ["_law_pairs_here"] (defScope s_law_refused) := ⟨rfl, rfl, rfl, by decide +kernel, rfl, by decide +kernel, by decide +kernel⟩
abbrev s_law_is : Stmt := top 16
abbrev N_law_is : List Str := ["_law_verdict", "_law_due", "_law_back"]
theorem sc_law_is : FnScope N_law_is ["_law_verdict", "_law_due"] (defScope s_law_is) := ⟨rfl, rfl, rfl, by decide +kernel, rfl, by decide +kernel, by decide +kernel⟩
abbrev s_law_first_part : Stmt := top 17
abbrev N_law_first_part : List Str := ["_law_script", "_law_state_here", "_law_names_here", "_law_spoiled", "_law_at", "_law_wrong", "_law_as_tuple", "_law_given", "_law_handed", "_law_verdict", "_law_due", "_law_told", "_law_kinds_here", "_law_kind", "_law_name", "_law_bad", "_law_pair"]
theorem sc_law_first_part : FnScope N_law_first_part ["_law_script"] (defScope s_law_first_part) := ⟨rfl, rfl, rfl, by decide +kernel, rfl, by decide +kernel, by decide +kernel⟩
abbrev s_law_second_part : Stmt := top 18
abbrev N_law_second_part : List Str := ["_law_script", "_law_state_here", "_law_names_here", "_law_one", "_law_other", "_law_kinds_here", "_law_some", "_law_first", "_law_second", "_law_whole", "_law_turn", "_law_pair"]
theorem sc_law_second_part : FnScope N_law_second_part ["_law_script"] (defScope s_law_second_part) := ⟨rfl, rfl, rfl, by decide +kernel, rfl, by decide +kernel, by decide +kernel⟩
abbrev s_law : Stmt := top 19
abbrev N_law : List Str := ["_law_script"]
theorem sc_law : FnScope N_law ["_law_script"] (defScope s_law) := ⟨rfl, rfl, rfl, by decide +kernel, rfl, by decide +kernel, by decide +kernel⟩
/-- what stands behind the top -/
structure Tops (w : World) (K : PySem.W.Frag) (mg : Str → Option Value) where
  z_isinstance : mg "isinstance" = none
  z_str : mg "str" = none
  z_tuple : mg "tuple" = none
  z_list : mg "list" = none
  z_len : mg "len" = none
  z_all : mg "all" = none
  z_set : mg "set" = none
  z_enumerate : mg "enumerate" = none
  z_range : mg "range" = none
  z_abs : mg "abs" = none
  z_int : mg "int" = none
  z_max : mg "max" = none
  z_dict : mg "dict" = none
  z_zip : mg "zip" = none
  z_sorted : mg "sorted" = none
  z_bool : mg "bool" = none
  a_InvalidKind_init : Addr
  d_InvalidKind_init : FuncData
  F_InvalidKind_init : Fun K "__init__" "InvalidKind.__init__" s_InvalidKind_init a_InvalidKind_init d_InvalidKind_init
  b_InvalidKind_init : Binds K d_InvalidKind_init ["self", "kind"] []
  a_check_kind : Addr
  d_check_kind : FuncData
  F_check_kind : Fun K "check_kind" "check_kind" s_check_kind a_check_kind d_check_kind
  b_check_kind : Binds K d_check_kind ["kind"] []
  m_check_kind : mg "check_kind" = some (.ref a_check_kind)
  a_Verdict_init : Addr
  d_Verdict_init : FuncData
  F_Verdict_init : Fun K "__init__" "Verdict.__init__" s_Verdict_init a_Verdict_init d_Verdict_init
  b_Verdict_init : Binds K d_Verdict_init ["self", "pairs"] []
  a_Verdict_pairs : Addr
  d_Verdict_pairs : FuncData
  F_Verdict_pairs : Fun K "pairs" "Verdict.pairs" s_Verdict_pairs a_Verdict_pairs d_Verdict_pairs
  b_Verdict_pairs : Binds K d_Verdict_pairs ["self"] []
  a_Verdict_kinds : Addr
  d_Verdict_kinds : FuncData
  F_Verdict_kinds : Fun K "kinds" "Verdict.kinds" s_Verdict_kinds a_Verdict_kinds d_Verdict_kinds
  b_Verdict_kinds : Binds K d_Verdict_kinds ["self"] []
  a_Verdict_only : Addr
  d_Verdict_only : FuncData
  F_Verdict_only : Fun K "only" "Verdict.only" s_Verdict_only a_Verdict_only d_Verdict_only
  b_Verdict_only : Binds K d_Verdict_only ["self", "kinds"] []
  a_Verdict_or : Addr
  d_Verdict_or : FuncData
  F_Verdict_or : Fun K "__or__" "Verdict.__or__" s_Verdict_or a_Verdict_or d_Verdict_or
  b_Verdict_or : Binds K d_Verdict_or ["self", "other"] []
  a_Verdict_and : Addr
  d_Verdict_and : FuncData
  F_Verdict_and : Fun K "__and__" "Verdict.__and__" s_Verdict_and a_Verdict_and d_Verdict_and
  b_Verdict_and : Binds K d_Verdict_and ["self", "other"] []
  a_Verdict_sub : Addr
  d_Verdict_sub : FuncData
  F_Verdict_sub : Fun K "__sub__" "Verdict.__sub__" s_Verdict_sub a_Verdict_sub d_Verdict_sub
  b_Verdict_sub : Binds K d_Verdict_sub ["self", "other"] []
  a_Verdict_eq : Addr
  d_Verdict_eq : FuncData
  F_Verdict_eq : Fun K "__eq__" "Verdict.__eq__" s_Verdict_eq a_Verdict_eq d_Verdict_eq
  b_Verdict_eq : Binds K d_Verdict_eq ["self", "other"] []
  a_Verdict_len : Addr
  d_Verdict_len : FuncData
  F_Verdict_len : Fun K "__len__" "Verdict.__len__" s_Verdict_len a_Verdict_len d_Verdict_len
  b_Verdict_len : Binds K d_Verdict_len ["self"] []
  a_Verdict_contains : Addr
  d_Verdict_contains : FuncData
  F_Verdict_contains : Fun K "__contains__" "Verdict.__contains__" s_Verdict_contains a_Verdict_contains d_Verdict_contains
  b_Verdict_contains : Binds K d_Verdict_contains ["self", "x"] []
  a__law_state : Addr
  d__law_state : FuncData
  F__law_state : Fun K "_law_state" "_law_state" s_law_state a__law_state d__law_state
  b__law_state : Binds K d__law_state ["_law_script"] []
  m__law_state : mg "_law_state" = some (.ref a__law_state)
  a__law_draw : Addr
  d__law_draw : FuncData
  F__law_draw : Fun K "_law_draw" "_law_draw" s_law_draw a__law_draw d__law_draw
  b__law_draw : Binds K d__law_draw ["_law_state_here", "_law_many"] []
  m__law_draw : mg "_law_draw" = some (.ref a__law_draw)
  a__law_names : Addr
  d__law_names : FuncData
  F__law_names : Fun K "_law_names" "_law_names" s_law_names a__law_names d__law_names
  b__law_names : Binds K d__law_names ["_law_state_here", "_law_many"] []
  m__law_names : mg "_law_names" = some (.ref a__law_names)
  a__law_kinds : Addr
  d__law_kinds : FuncData
  F__law_kinds : Fun K "_law_kinds" "_law_kinds" s_law_kinds a__law_kinds d__law_kinds
  b__law_kinds : Binds K d__law_kinds [] []
  m__law_kinds : mg "_law_kinds" = some (.ref a__law_kinds)
  a__law_pairs : Addr
  d__law_pairs : FuncData
  F__law_pairs : Fun K "_law_pairs" "_law_pairs" s_law_pairs a__law_pairs d__law_pairs
  b__law_pairs : Binds K d__law_pairs ["_law_state_here", "_law_names_here", "_law_most_pairs"] []
  m__law_pairs : mg "_law_pairs" = some (.ref a__law_pairs)
  a__law_ordered : Addr
  d__law_ordered : FuncData
  F__law_ordered : Fun K "_law_ordered" "_law_ordered" s_law_ordered a__law_ordered d__law_ordered
  b__law_ordered : Binds K d__law_ordered ["_law_kinds_here", "_law_pairs_here"] []
  m__law_ordered : mg "_law_ordered" = some (.ref a__law_ordered)
  a__law_refused : Addr
  d__law_refused : FuncData
  F__law_refused : Fun K "_law_refused" "_law_refused" s_law_refused a__law_refused d__law_refused
  b__law_refused : Binds K d__law_refused ["_law_pairs_here"] []
  m__law_refused : mg "_law_refused" = some (.ref a__law_refused)
  a__law_is : Addr
  d__law_is : FuncData
  F__law_is : Fun K "_law_is" "_law_is" s_law_is a__law_is d__law_is
  b__law_is : Binds K d__law_is ["_law_verdict", "_law_due"] []
  m__law_is : mg "_law_is" = some (.ref a__law_is)
  a__law_first_part : Addr
  d__law_first_part : FuncData
  F__law_first_part : Fun K "_law_first_part" "_law_first_part" s_law_first_part a__law_first_part d__law_first_part
  b__law_first_part : Binds K d__law_first_part ["_law_script"] []
  m__law_first_part : mg "_law_first_part" = some (.ref a__law_first_part)
  a__law_second_part : Addr
  d__law_second_part : FuncData
  F__law_second_part : Fun K "_law_second_part" "_law_second_part" s_law_second_part a__law_second_part d__law_second_part
  b__law_second_part : Binds K d__law_second_part ["_law_script"] []
  m__law_second_part : mg "_law_second_part" = some (.ref a__law_second_part)
  a_law : Addr
  d_law : FuncData
  F_law : Fun K "law" "law" s_law a_law d_law
  b_law : Binds K d_law ["_law_script"] []
  m_law : mg "law" = some (.ref a_law)
  c_ToldError : Addr
  m_ToldError : mg "ToldError" = some (.ref c_ToldError)
  c_InvalidKind : Addr
  m_InvalidKind : mg "InvalidKind" = some (.ref c_InvalidKind)
  x_InvalidKind : OexC K c_InvalidKind
  xi_InvalidKind : PySem.W.findIn K (.ref c_InvalidKind) "__init__" = some (some (.ref a_InvalidKind_init))
  xt_InvalidKind : PySem.W.typeIn K (.ref a_InvalidKind_init) = some (.type "function")
  n_InvalidKind_kind : PySem.W.findIn K (.ref c_InvalidKind) "kind" = some none
  xa_InvalidKind : PySem.W.findIn K (.ref c_InvalidKind) "__getattribute__" = some (some (.builtin "BaseException.__getattribute__"))
  xg_InvalidKind : PySem.W.findIn K (.ref c_InvalidKind) "__getattr__" = some none
  xh_InvalidKind : PySem.W.hasDictIn K c_InvalidKind = true
  xe_InvalidKind : PySem.W.exmOne K (.ref c_InvalidKind) (.ref c_InvalidKind) = some true
  c_Verdict : Addr
  m_Verdict : mg "Verdict" = some (.ref c_Verdict)
  l_Verdict : Cls K c_Verdict
  k_Verdict : Mk K c_Verdict a_Verdict_init
  n_Verdict__pairs : NoAttr K c_Verdict "_pairs"
  t_Verdict_pairs : Meth K c_Verdict "pairs" a_Verdict_pairs
  t_Verdict_kinds : Meth K c_Verdict "kinds" a_Verdict_kinds
  t_Verdict_only : Meth K c_Verdict "only" a_Verdict_only
  i_Verdict : C8.InsC K c_Verdict
  a_KINDS : Addr
  c_KINDS : mg "KINDS" = some (.ref a_KINDS)
  w_KINDS : ∀ H : Hp, SqT K H a_KINDS [V.str "mixed", V.str "through", V.str "twice", V.str "needless", V.str "missed", V.str "long"]
  xq_Verdict : PySem.W.findIn K (.ref c_Verdict) "__eq__" = some (some (.ref a_Verdict_eq))
  xo_Verdict : PySem.W.findIn K (.ref c_Verdict) "__or__" = some (some (.ref a_Verdict_or))
  xa_Verdict : PySem.W.findIn K (.ref c_Verdict) "__and__" = some (some (.ref a_Verdict_and))
  xs_Verdict : PySem.W.findIn K (.ref c_Verdict) "__sub__" = some (some (.ref a_Verdict_sub))
  xl_Verdict : PySem.W.findIn K (.ref c_Verdict) "__len__" = some (some (.ref a_Verdict_len))
  xc_Verdict : PySem.W.findIn K (.ref c_Verdict) "__contains__" = some (some (.ref a_Verdict_contains))
  xfq_Verdict : PySem.W.isFn K (.ref a_Verdict_eq) = true
  xfo_Verdict : PySem.W.isFn K (.ref a_Verdict_or) = true
  xfa_Verdict : PySem.W.isFn K (.ref a_Verdict_and) = true
  xfs_Verdict : PySem.W.isFn K (.ref a_Verdict_sub) = true
  xfl_Verdict : PySem.W.isFn K (.ref a_Verdict_len) = true
  xfc_Verdict : PySem.W.isFn K (.ref a_Verdict_contains) = true
  xb_Verdict : PySem.W.findIn K (.ref c_Verdict) "__bool__" = some none
  xm_Verdict : PySem.W.selfFirst K c_Verdict = true
end K50
namespace K50
open PySem PySem.Spec PyProof.Rows L2 Td
/-- the state of the draws at st -/
def stL (sc : Addr) (i d c s : Int) : List V := [.ref sc, .int i, .int d, .int c, .int s]
def StOk (H : Hp) (st sc : Addr) : Prop := ∃ (cs : List Int) (i d c s : Int),
  H st = some (.lst (stL sc i d c s)) ∧ H sc = some (.lst (cs.map V.int)) ∧ 0 ≤ d ∧ 0 ≤ i ∧ i ≤ cs.length ∧ cs.length ≤ 63 ∧ sc ≠ st
def spDraw : Sp := fun vs H Q _ => ∃ (st sc : Addr) (m : Int), vs = [.ref st, .int m] ∧ 0 < m ∧ m < 2 ^ 64 ∧ StOk H st sc ∧
  ∀ (r : Int) (H' : Hp), 0 ≤ r → r < m → Keep st H H' → StOk H' st sc → (∃ L, H' = upd H st (.lst L)) → Q (.int r) H'
def spState (K : PySem.W.Frag) : Sp := fun vs H Q _ => ∃ (a : Addr) (ns : List Int), vs = [.ref a] ∧ SqL K H a (ns.map V.int) ∧ ns.length ≤ 63 ∧
  ∀ (st sc : Addr) (H' : Hp), Same H H' → H st = none → H sc = none → StOk H' st sc → Q (.ref st) H'
section
variable {P : Program} {w : World} {K : PySem.W.Frag} {mg : Str → Option Value} {base : Heap}
theorem ok_draw (T : Tops w K mg) : FnOk P w K mg base CX0 1 T.a__law_draw T.d__law_draw ["_law_state_here", "_law_many"] spDraw := by
  refine T.F__law_draw.ok sc_law_draw (fun vs H Q E h => ?_) (fun cdv A outer s H vs Q E hr h => ?_)
  · obtain ⟨st, sc, m, rfl, _⟩ := h
    rfl
  obtain ⟨st, sc, m, rfl, hm0, hm1, ⟨cs, i, d, c, z, h1, h2, hd0, hi0, hi, h63, hne⟩, q⟩ := h
  refine ⟨_, (pss_cons (ps_augS (pv 0) pe_int get_list pe_int ip_add set_list)
    (C8.pss_cut (ps_if (PW.pt (pw_and (pt_cmpR op_eq (pe_ix ix_list (pv 0) pe_int (fun _ _ => rfl)) pe_int (nomark _)) (pw_and1 (pt_cmpR op_lt (pe_ix ix_list (pv 0) pe_int (fun _ _ => rfl)) (pe_callB call_len rfl T.z_len PySem.boot_len (pa_cons (pe_ix ix_list (pv 0) pe_int (fun _ _ => rfl)) pa_nil)) (nomark _))))) (pss_cons (ps_set (i := 2) sc_law_draw.nd rfl (Or.inl rfl) (pe_ix ix_list (pe_ix ix_list (pv 0) pe_int (fun _ _ => rfl)) (pe_ix ix_list (pv 0) pe_int (fun _ _ => rfl)) (fun _ _ => rfl)))
    (pss_cons (ps_augS (pv 0) pe_int get_list pe_int ip_add set_list)
    (pss_one (ps_if (pt_cmpR op_ge (pe_callB call_abs rfl T.z_abs (by decide +kernel) (pa_cons (pv 2) pa_nil)) (pe_op op_pow pe_int pe_int) (nomark _)) (pss_one (ps_asg (pe_callB call_abs rfl T.z_abs (by decide +kernel) (pa_cons (pv 2) pa_nil)) (pg_sub (pv 0) pe_int set_list))) (pss_one (ps_asg (pe_op op_modN (pe_callTy call_int1 rfl T.z_int (by decide +kernel) (pa_cons (pe_op op_add (pe_op op_add (pe_op op_mul (pe_ix ix_list (pv 0) pe_int (fun _ _ => rfl)) pe_int) (pv 2)) pe_int) pa_nil)) pe_int) (pg_sub (pv 0) pe_int set_list))))))) pss_nil)
    (pss_cons (ps_if (pt_cmpR op_gt (pe_ix ix_list (pv 0) pe_int (fun _ _ => rfl)) pe_int (nomark _)) (pss_cons (ps_set (i := 3) sc_law_draw.nd rfl (Or.inl rfl) (pe_op op_modN (pe_callTy call_int1 rfl T.z_int (by decide +kernel) (pa_cons (pe_ix ix_list (pv 0) pe_int (fun _ _ => rfl)) pa_nil)) (pv 1)))
    (pss_cons (ps_asg (pe_op op_fdivW (pe_ix ix_list (pv 0) pe_int (fun _ _ => rfl)) (pv 1)) (pg_sub (pv 0) pe_int set_list))
    (pss_one (ps_ret (pv 3))))) pss_nil)
    (pss_cons (ps_set (i := 4) sc_law_draw.nd rfl (Or.inl rfl) (pe_op op_modN (pe_callTy call_int1 rfl T.z_int (by decide +kernel) (pa_cons (pe_op op_mul (pe_op op_add (pe_op op_add (pe_ix ix_list (pv 0) pe_int (fun _ _ => rfl)) (pe_op op_mul pe_int (pe_ix ix_list (pv 0) pe_int (fun _ _ => rfl)))) pe_int) pe_int) pa_nil)) pe_int))
    (pss_cons (ps_set (i := 5) sc_law_draw.nd rfl (Or.inl rfl) (pe_op op_modN (pe_callTy call_int1 rfl T.z_int (by decide +kernel) (pa_cons (pe_op op_mul (pv 4) (pe_op op_add (pe_op op_fdivW (pv 4) pe_int) pe_int)) pa_nil)) pe_int))
    (pss_cons (ps_set (i := 6) sc_law_draw.nd rfl (Or.inl rfl) (pe_op op_modN (pe_callTy call_int1 rfl T.z_int (by decide +kernel) (pa_cons (pe_op op_mul (pv 5) (pe_op op_add (pe_op op_fdivW (pv 5) pe_int) pe_int)) pa_nil)) pe_int))
    (pss_one (ps_ret (pe_op op_modN (pe_callTy call_int1 rfl T.z_int (by decide +kernel) (pa_cons (pe_op op_fdivW (pv 6) pe_int) pa_nil)) (pv 1)))))))))), ?_⟩
  -- state[3] += 1
  refine ⟨_, rfl, st, _, 3, _, rfl, rfl, SqL.of h1, rfl, _, _, rfl, rfl, st, _, _, 3, rfl, rfl, h1, rfl, ?_⟩
  have k1 : Keep st H (upd H st (.lst (stL sc i d (c + 1) z))) := Keep.upd
  have e1 : upd H st (.lst (stL sc i d (c + 1) z)) st = some (.lst (stL sc i d (c + 1) z)) := upd_same
  have e2 : upd H st (.lst (stL sc i d (c + 1) z)) sc = some (.lst (cs.map V.int)) := k1 _ _ hne h2
  show C8.tCut _ _ _ _ (upd H st (.lst (stL sc i d (c + 1) z)))
  refine ⟨fun σ' H' => ∃ (v : Option V) (i' d' z' : Int), σ' = [some (.ref st), some (.int m), v, none, none, none, none] ∧
    H' = upd H st (.lst (stL sc i' d' (c + 1) z')) ∧ 0 ≤ d' ∧ 0 ≤ i' ∧ i' ≤ cs.length, ?_, ?_⟩
  · -- if state[2] == 0 and state[1] < len(state[0])
    refine ⟨_, rfl, st, _, 2, _, rfl, rfl, SqL.of e1, rfl, rfl, _, rfl, ?_⟩
    refine ite2 (fun c1 => ?_) (fun _ => iteF ⟨none, i, d, z, rfl, rfl, hd0, hi0, hi⟩)
    refine ⟨_, rfl, st, _, 1, _, rfl, rfl, SqL.of e1, rfl, _, rfl, st, _, 0, _, rfl, rfl, SqL.of e1, rfl, _, (cs.map V.int).length, rfl, .inl ⟨_, SqL.of e2, rfl⟩, _, _, rfl, rfl, _, rfl, ?_⟩
    refine ite2 (fun c2 => ?_) (fun _ => ⟨none, i, d, z, rfl, rfl, hd0, hi0, hi⟩)
    have hlt : i.toNat < cs.length := by
      have := of_decide_eq_true c2
      rw [List.length_map] at this
      omega
    have hat : atI (cs.map V.int) i = some (V.int cs[i.toNat]) := by
      have : atI (cs.map V.int) ((i.toNat : Nat) : Int) = some (V.int cs[i.toNat]) := atI_nat (by rw [List.getElem?_map, List.getElem?_eq_getElem hlt]; rfl)
      rwa [show ((i.toNat : Nat) : Int) = i by omega] at this
    -- cell = state[0][state[1]]; state[1] += 1
    refine ⟨_, rfl, st, _, 0, _, rfl, rfl, SqL.of e1, rfl, _, rfl, st, _, 1, _, rfl, rfl, SqL.of e1, rfl, sc, _, i, V.int cs[i.toNat], rfl, rfl, SqL.of e2, hat, ?_⟩
    refine ⟨_, rfl, st, _, 1, _, rfl, rfl, SqL.of e1, rfl, _, _, rfl, rfl, st, _, _, 1, rfl, rfl, e1, rfl, ?_⟩
    rw [upd_upd]
    have e3 : upd H st (.lst (stL sc (i + 1) d (c + 1) z)) st = some (.lst (stL sc (i + 1) d (c + 1) z)) := upd_same
    rw [show upd H st (.lst ((stL sc i d (c + 1) z).set 1 (V.int ((fun i j => i + j) i 1)))) = upd H st (.lst (stL sc (i + 1) d (c + 1) z)) from rfl]
    -- if abs(cell) >= 10 ** 18
    refine ⟨_, rfl, _, rfl, _, _, rfl, rfl, ⟨by decide, by decide, by decide⟩, _, _, rfl, rfl, _, rfl, ?_⟩
    refine ite2 (fun _ => ?_) (fun _ => ?_)
    · refine ⟨_, rfl, _, rfl, _, rfl, st, _, 2, 2, rfl, rfl, e3, rfl, ?_⟩
      rw [upd_upd]
      exact ⟨_, i + 1, _, z, rfl, rfl, by split <;> omega, by omega, by omega⟩
    · refine ⟨_, rfl, st, _, 4, _, rfl, rfl, SqL.of e3, rfl, _, _, rfl, rfl, .inr ⟨by decide, by decide⟩, _, rfl, _, _, rfl, rfl, _, _, rfl, rfl, .inl ⟨_, rfl, ?_⟩⟩
      refine ⟨_, _, rfl, rfl, (by show (2147483647 : Int) ≠ 0; decide), _, rfl, st, _, 4, 4, rfl, rfl, e3, rfl, ?_⟩
      rw [upd_upd]
      exact ⟨_, i + 1, _, _, rfl, rfl, hd0, by omega, by omega⟩
  · rintro σ' H' ⟨v, i', d', z', rfl, rfl, hd', hi0', hi'⟩
    have e3 : upd H st (.lst (stL sc i' d' (c + 1) z')) st = some (.lst (stL sc i' d' (c + 1) z')) := upd_same
    have e4 : ∀ i2 d2 c2 z2, upd H st (.lst (stL sc i2 d2 c2 z2)) sc = some (.lst (cs.map V.int)) := fun i2 d2 c2 z2 => by rw [upd_ne hne]; exact h2
    have fin : ∀ (r : Int) (d2 : Int), 0 ≤ d2 → 0 ≤ r → r < m → Q (.int r) (upd H st (.lst (stL sc i' d2 (c + 1) z'))) := fun r d2 h0 hr0 hr1 =>
      q r _ hr0 hr1 Keep.upd ⟨cs, i', d2, c + 1, z', upd_same, e4 _ _ _ _, h0, hi0', hi', h63, hne⟩ ⟨_, rfl⟩
    -- if state[2] > 0
    refine ⟨_, rfl, st, _, 2, _, rfl, rfl, SqL.of e3, rfl, _, _, rfl, rfl, _, rfl, ?_⟩
    refine ite2 (fun _ => ?_) (fun _ => ?_)
    · refine ⟨_, rfl, st, _, 2, _, rfl, rfl, SqL.of e3, rfl, .inl ⟨_, rfl, _, rfl, _, _, rfl, rfl, by omega, ?_⟩⟩
      refine ⟨_, rfl, st, _, 2, _, rfl, rfl, SqL.of e3, rfl, _, rfl, _, _, rfl, rfl, wide_div (b := 64) hm0 (by omega) (by decide) (by decide), ?_⟩
      refine ⟨_, rfl, st, _, 2, 2, rfl, rfl, e3, rfl, ?_⟩
      rw [upd_upd]
      refine ⟨_, rfl, fin _ _ (Int.ediv_nonneg hd' (Int.le_of_lt hm0)) ?_ ?_⟩
      · rw [Int.fmod_eq_emod_of_nonneg _ (Int.le_of_lt hm0)]; exact Int.emod_nonneg _ (by omega)
      · rw [Int.fmod_eq_emod_of_nonneg _ (Int.le_of_lt hm0)]; exact Int.emod_lt_of_pos _ hm0
    · -- one, two, three
      refine ⟨_, rfl, st, _, 4, _, rfl, rfl, SqL.of e3, rfl, _, rfl, st, _, 3, _, rfl, rfl, SqL.of e3, rfl, _, _, rfl, rfl, .inl ⟨by decide, by decide⟩, _, _, rfl, rfl, _, _, rfl, rfl, _, _, rfl, rfl, .inr ⟨by decide, by decide⟩, .inl ⟨_, rfl, _, _, rfl, rfl, (by show (2147483647 : Int) ≠ 0; decide), ?_⟩⟩
      dsimp only
      generalize hx : Int.fmod ((z' + 7919 * (c + 1) + 1) * 48271) 2147483647 = one
      have o0 : 0 ≤ one ∧ one < 2147483647 := by
        rw [← hx, Int.fmod_eq_emod_of_nonneg _ (by decide)]
        exact ⟨Int.emod_nonneg _ (by decide), Int.emod_lt_of_pos _ (by decide)⟩
      refine ⟨_, rfl, _, rfl, _, _, rfl, rfl, wide_div (b := 64) (by decide) (by decide) (by decide) (by decide), _, _, rfl, rfl, _, _, rfl, rfl, .inl ⟨by omega, by omega⟩, .inl ⟨_, rfl, _, _, rfl, rfl, (by show (2147483647 : Int) ≠ 0; decide), ?_⟩⟩
      dsimp only
      generalize hy : Int.fmod (one * (one / 1009 + 69621)) 2147483647 = two
      have t0 : 0 ≤ two ∧ two < 2147483647 := by
        rw [← hy, Int.fmod_eq_emod_of_nonneg _ (by decide)]
        exact ⟨Int.emod_nonneg _ (by decide), Int.emod_lt_of_pos _ (by decide)⟩
      refine ⟨_, rfl, _, rfl, _, _, rfl, rfl, wide_div (b := 64) (by decide) (by decide) (by decide) (by decide), _, _, rfl, rfl, _, _, rfl, rfl, .inl ⟨by omega, by omega⟩, .inl ⟨_, rfl, _, _, rfl, rfl, (by show (2147483399 : Int) ≠ 0; decide), ?_⟩⟩
      refine ⟨_, rfl, _, _, rfl, rfl, wide_div (b := 64) (by decide) (by decide) (by decide) (by decide), .inl ⟨_, rfl, _, rfl, _, _, rfl, rfl, by omega, ?_⟩⟩
      refine fin _ _ hd' ?_ ?_
      · rw [Int.fmod_eq_emod_of_nonneg _ (Int.le_of_lt hm0)]; exact Int.emod_nonneg _ (by omega)
      · rw [Int.fmod_eq_emod_of_nonneg _ (Int.le_of_lt hm0)]; exact Int.emod_lt_of_pos _ hm0
end
end K50
namespace K50
open PySem PySem.Spec PyProof.Rows L2 Td
/-! ### the letters -/
def abc : Str := "abcdefghijklmnopqrstuvwxyz"
theorem abc_list : abc.cps.toList = List.range' 97 26 := by decide +kernel
theorem abc_len : abc.length ≤ sizeLine := by
  rw [show abc.length = 26 by decide +kernel]; decide
theorem abc_at {i : Int} (h0 : 0 ≤ i) (h1 : i < 26) : atI abc.cps.toList i = some (97 + i.toNat) := by
  have : atI abc.cps.toList ((i.toNat : Nat) : Int) = some (97 + i.toNat) := atI_nat (by
    rw [abc_list, List.getElem?_range' (by omega), Nat.one_mul])
  rwa [show ((i.toNat : Nat) : Int) = i by omega] at this
theorem add_len (z : Str) (c : Nat) : (z ++ (⟨#[c]⟩ : Str)).length = z.length + 1 := by
  show (z.cps ++ #[c]).size = z.cps.size + 1
  simp
theorem add_low {z : Str} {c : Nat} (h : z.cps.toList.all lowc = true) (hc : lowc c = true) : (z ++ (⟨#[c]⟩ : Str)).cps.toList.all lowc = true := by
  show (z.cps ++ #[c]).toList.all lowc = true
  simp [List.all_append] at h ⊢
  exact ⟨h, hc⟩
theorem add_old {z : Str} {c j x : Nat} (h : z.cps[j]? = some x) : (z ++ (⟨#[c]⟩ : Str)).cps[j]? = some x := by
  show (z.cps ++ #[c])[j]? = some x
  have := (Array.getElem?_eq_some_iff.mp h).1
  rw [Array.getElem?_append_left this]; exact h
theorem add_new (z : Str) (c : Nat) : (z ++ (⟨#[c]⟩ : Str)).cps[z.length]? = some c := by
  show (z.cps ++ #[c])[z.cps.size]? = some c
  simp
theorem low_of {i : Int} (h0 : 0 ≤ i) (h1 : i < 26) : lowc (97 + i.toNat) = true := by
  unfold lowc
  simp
  omega
/-- what the names of one drawing have in common: at the place p stands the k-th letter -/
def letK (first k : Nat) : Nat := 97 + (first + 7 * k) % 26
structure NamesAt (p first : Nat) (ns : List Str) : Prop where
  good : ∀ z ∈ ns, isNm z = true
  at_ : ∀ (j : Nat) (z : Str), ns[j]? = some z → z.cps[p]? = some (letK first j)
theorem NamesAt.nodup {p first : Nat} {ns : List Str} (h : NamesAt p first ns) (hl : ns.length ≤ 26) : ns.Nodup := by
  rw [List.Nodup, List.pairwise_iff_getElem]
  intro i j hi hj hij e3
  have e1 := h.at_ i ns[i] (List.getElem?_eq_getElem hi)
  have e2 := h.at_ j ns[j] (List.getElem?_eq_getElem hj)
  rw [e3, e2] at e1
  have := Option.some.inj e1
  unfold letK at this
  omega
theorem NamesAt.snoc {p first : Nat} {ns : List Str} {z : Str} (h : NamesAt p first ns) (hz : isNm z = true) (ha : z.cps[p]? = some (letK first ns.length)) : NamesAt p first (ns ++ [z]) := by
  refine ⟨fun y hy => ?_, fun j y hy => ?_⟩
  · rcases List.mem_append.mp hy with q | q
    · exact h.good y q
    · rw [List.mem_singleton.mp q]; exact hz
  · by_cases hj : j < ns.length
    · rw [List.getElem?_append_left hj] at hy
      exact h.at_ j y hy
    · rw [List.getElem?_append_right (by omega)] at hy
      have : j = ns.length := by
        rcases Nat.lt_or_ge 0 (j - ns.length) with c | c
        · rw [List.getElem?_eq_none (by simp; omega)] at hy; cases hy
        · omega
      subst this
      simp at hy
      rw [← hy]; exact ha
def spNames : Sp := fun vs H Q _ => ∃ (st sc : Addr) (n : Int), vs = [.ref st, .int n] ∧ 0 ≤ n ∧ n ≤ 20 ∧ StOk H st sc ∧
  ∀ (p : Addr) (ns : List Str) (H' : Hp), Keep st H H' → StOk H' st sc → H p = none → p ≠ st → p ≠ sc → H' p = some (.lst (ns.map V.str)) → (ns.length : Int) = n → Names ns → Q (.ref p) H'
theorem StOk.at {H : Hp} {st sc : Addr} (h : StOk H st sc) : ∃ L, H st = some (.lst L) := by
  obtain ⟨cs, i, d, c, s, h1, _⟩ := h
  exact ⟨_, h1⟩
theorem StOk.scat {H : Hp} {st sc : Addr} (h : StOk H st sc) : ∃ L, H sc = some (.lst L) := by
  obtain ⟨cs, i, d, c, s, h1, h2, _⟩ := h
  exact ⟨_, h2⟩
theorem StOk.other {H : Hp} {st sc p : Addr} {o : HO} (h : StOk H st sc) (hp : p ≠ st) (hq : p ≠ sc) : StOk (upd H p o) st sc := by
  obtain ⟨cs, i, d, c, s, h1, h2, r⟩ := h
  exact ⟨cs, i, d, c, s, by rw [upd_ne (Ne.symm hp)]; exact h1, by rw [upd_ne (Ne.symm hq)]; exact h2, r⟩
theorem StOk.ne {H : Hp} {st sc p : Addr} (h : StOk H st sc) (hp : H p = none) : p ≠ st ∧ p ≠ sc := by
  obtain ⟨L, h1⟩ := h.at
  obtain ⟨M, h2⟩ := h.scat
  exact ⟨Ne.symm (ne_of_none h1 hp), Ne.symm (ne_of_none h2 hp)⟩
theorem StOk.new {H : Hp} {st sc p : Addr} {o : HO} (h : StOk H st sc) (hp : H p = none) : StOk (upd H p o) st sc :=
  h.other (h.ne hp).1 (h.ne hp).2
section
variable {P : Program} {w : World} {K : PySem.W.Frag} {mg : Str → Option Value} {base : Heap}
theorem ok_state (T : Tops w K mg) : FnOk P w K mg base CX0 1 T.a__law_state T.d__law_state ["_law_script"] (spState K) := by
  refine T.F__law_state.ok sc_law_state (fun vs H Q E h => ?_) (fun cdv A outer s H vs Q E hr h => ?_)
  · obtain ⟨a, ns, rfl, _⟩ := h
    rfl
  obtain ⟨a, ns, rfl, hS, hl, q⟩ := h
  refine ⟨_, (pss_one (ps_ret (pe_lst (pa_cons (pe_callTy call_list_of rfl T.z_list (by decide +kernel) (pa_cons (pe_slice sl_list (pv 0) po_none (po_some pe_int)) pa_nil)) (pa_cons pe_int (pa_cons pe_int (pa_cons pe_int (pa_cons pe_int pa_nil)))))))), ?_⟩
  have hcut : cutV (ns.map V.int) none (some 63) = ns.map V.int := by
    unfold cutV
    rw [HT.sIx_none, show HT.sIx (ns.map V.int).length (ns.map V.int).length (some 63) = min 63 (ns.map V.int).length from HT.sIx_nat _ _ 63]
    rw [List.drop_zero, List.take_of_length_le (by rw [List.length_map]; omega)]
  refine ⟨_, rfl, 63, rfl, a, _, rfl, hS, fun p hp => ⟨p, _, rfl, .inl (SqL.of upd_same), fun l hl2 => ⟨by show 5 ≤ sizeLine; decide, fun st hst => ?_⟩⟩⟩
  rw [hcut] at hl2 hst ⊢
  have npl : p ≠ l := fun e => by rw [e, upd_same] at hl2; cases hl2
  have hl0 : H l = none := by rw [upd_ne (Ne.symm npl)] at hl2; exact hl2
  have nls : l ≠ st := fun e => by rw [e, upd_same] at hst; cases hst
  have hst2 : H st = none := by
    rw [upd_ne (Ne.symm nls)] at hst
    by_cases c : st = p
    · rw [c, upd_same] at hst; cases hst
    · rw [upd_ne c] at hst; exact hst
  refine q st l _ (fun b o e => ?_) hst2 hl0 ⟨ns, 0, 0, 0, 1, upd_same, by rw [upd_ne nls, upd_same], by decide, by decide, by omega, hl, nls⟩
  rw [upd_ne (ne_of_none e hst2), upd_ne (ne_of_none e hl0), upd_ne (ne_of_none e hp)]
  exact e
theorem ok_names (T : Tops w K mg) (G__law_draw : FnOk P w K mg base CX0 1 T.a__law_draw T.d__law_draw ["_law_state_here", "_law_many"] spDraw) :
    FnOk P w K mg base CX0 2 T.a__law_names T.d__law_names ["_law_state_here", "_law_many"] spNames := by
  refine T.F__law_names.ok sc_law_names (fun vs H Q E h => ?_) (fun cdv A outer s H vs Q E hr h => ?_)
  · obtain ⟨st, sc, m, rfl, _⟩ := h
    rfl
  obtain ⟨st, sc, n, rfl, hn0, hn1, hst, q⟩ := h
  refine ⟨_, (pss_cons (ps_set (i := 2) sc_law_names.nd rfl (Or.inl rfl) (pe_call G__law_draw (hr.mono (by omega)) rfl T.m__law_draw T.F__law_draw.kp T.b__law_draw .nil pass0 (pa_cons (pv 0) (pa_cons pe_int pa_nil))))
    (pss_cons (ps_set (i := 3) sc_law_names.nd rfl (Or.inl rfl) (pe_call G__law_draw (hr.mono (by omega)) rfl T.m__law_draw T.F__law_draw.kp T.b__law_draw .nil pass0 (pa_cons (pv 0) (pa_cons pe_int pa_nil))))
    (pss_cons (ps_set (i := 4) sc_law_names.nd rfl (Or.inl rfl) (pe_call G__law_draw (hr.mono (by omega)) rfl T.m__law_draw T.F__law_draw.kp T.b__law_draw .nil pass0 (pa_cons (pv 0) (pa_cons pe_int pa_nil))))
    (pss_cons (ps_set (i := 5) sc_law_names.nd rfl (Or.inl rfl) (pe_call G__law_draw (hr.mono (by omega)) rfl T.m__law_draw T.F__law_draw.kp T.b__law_draw .nil pass0 (pa_cons (pv 0) (pa_cons (pe_op op_pow pe_int pe_int) pa_nil))))
    (pss_cons (ps_set (i := 6) sc_law_names.nd rfl (Or.inl rfl) pe_str)
    (pss_cons (ps_set (i := 7) sc_law_names.nd rfl (Or.inl rfl) (pe_lst pa_nil))
    (pss_cons (ps_for PassesOwn.never rfl (pi_range1 rfl T.z_range (pa_cons (pv 1) pa_nil)) (pg_name (i := 8) sc_law_names.nd rfl (Or.inl rfl)) (pss_cons (ps_set (i := 9) sc_law_names.nd rfl (Or.inl rfl) (pv 5))
    (pss_cons (ps_set (i := 10) sc_law_names.nd rfl (Or.inl rfl) (pe_op op_add (pv 2) pe_int))
    (C8.pss_cut (ps_if (pt_cmpR op_eq (pv 4) pe_int (nomark _)) (pss_cons (ps_set (i := 9) sc_law_names.nd rfl (Or.inl rfl) (pe_call G__law_draw (hr.mono (by omega)) rfl T.m__law_draw T.F__law_draw.kp T.b__law_draw .nil pass0 (pa_cons (pv 0) (pa_cons (pe_op op_pow pe_int pe_int) pa_nil))))
    (pss_one (ps_set (i := 10) sc_law_names.nd rfl (Or.inl rfl) (pe_op op_add (pe_op op_add (pv 2) pe_int) (pe_call G__law_draw (hr.mono (by omega)) rfl T.m__law_draw T.F__law_draw.kp T.b__law_draw .nil pass0 (pa_cons (pv 0) (pa_cons (pe_op op_sub pe_int (pv 2)) pa_nil))))))) pss_nil)
    (pss_cons (ps_set (i := 11) sc_law_names.nd rfl (Or.inl rfl) pe_str)
    (pss_cons (ps_for PassesOwn.never rfl (pi_range1 rfl T.z_range (pa_cons (pv 10) pa_nil)) (pg_name (i := 12) sc_law_names.nd rfl (Or.inl rfl)) (pss_one (ps_if (pt_cmpR op_eq (pv 12) (pv 2) (nomark _)) (pss_one (ps_set (i := 11) sc_law_names.nd rfl (Or.inl rfl) (pe_op op_add_str (pv 11) (pe_ix ix_str (pv 6) (pe_op op_modN (pe_callTy call_int1 rfl T.z_int (by decide +kernel) (pa_cons (pe_op op_add (pv 3) (pe_op op_mul pe_int (pv 8))) pa_nil)) pe_int) (fun _ _ => rfl))))) (pss_cons (ps_set (i := 11) sc_law_names.nd rfl (Or.inl rfl) (pe_op op_add_str (pv 11) (pe_ix ix_str (pv 6) (pe_op op_modN (pe_callTy call_int1 rfl T.z_int (by decide +kernel) (pa_cons (pv 9) pa_nil)) pe_int) (fun _ _ => rfl))))
    (pss_one (ps_set (i := 9) sc_law_names.nd rfl (Or.inl rfl) (pe_op op_fdivW (pv 9) pe_int)))))))
    (pss_one (ps_expr (pe_bm PySem.F.plainAttrs_list PySem.F.slot_list_append PySem.F.type_list_append mt_append (pv 7) (pa_cons (pv 11) pa_nil))))))))))
    (pss_one (ps_ret (pv 7)))))))))), ?_⟩
  refine ⟨_, rfl, st, sc, 8, rfl, by decide, by decide, hst, fun pl H1 pl0 pl1 k1 s1 _ => ?_⟩
  refine ⟨_, rfl, st, sc, 26, rfl, by decide, by decide, s1, fun fi H2 fi0 fi1 k2 s2 _ => ?_⟩
  refine ⟨_, rfl, st, sc, 2, rfl, by decide, by decide, s2, fun sh H3 sh0 sh1 k3 s3 _ => ?_⟩
  refine ⟨_, rfl, _, _, rfl, rfl, ⟨by decide, by decide, by decide⟩, st, sc, _, rfl, by decide, by decide, s3, fun ba H4 ba0 ba1 k4 s4 _ => ?_⟩
  have k04 : Keep st H H4 := k1.trans (k2.trans (k3.trans k4))
  refine ⟨Nat.zero_le _, fun p hp => ?_⟩
  obtain ⟨nps, npc⟩ := s4.ne hp
  have hp0 : H p = none := k04.free nps hp
  refine ⟨_, rfl, n, rfl, by omega, by omega, for_range (lo := 0) (n := n.toNat) (fun i σ H' => ∃ (v8 v9 v10 v11 v12 : Option V) (ns : List Str),
    σ = [some (.ref st), some (.int n), some (.int pl), some (.int fi), some (.int sh), some (.int ba), some (.str abc), some (.ref p), v8, v9, v10, v11, v12] ∧
    Keep st H H' ∧ StOk H' st sc ∧ H' p = some (.lst (ns.map V.str)) ∧ ns.length = i ∧ NamesAt pl.toNat fi.toNat ns)
    ⟨none, none, none, none, none, [], rfl, k04.trans (Keep.new hp), s4.new hp, upd_same, rfl, ⟨fun z h => (List.not_mem_nil h).elim, fun j z h => by simp at h⟩⟩ ?_ ?_⟩
  · rintro i σ H' hi ⟨v8, v9, v10, v11, v12, ns, rfl, kH, sH, hpH, hlen, hN⟩
    refine ⟨_, rfl, _, rfl, _, _, rfl, rfl, ?_⟩
    refine ⟨fun σ' H'' => ∃ (o sz : Int), σ' = [some (.ref st), some (.int n), some (.int pl), some (.int fi), some (.int sh), some (.int ba), some (.str abc), some (.ref p), some (.int (0 + i)), some (.int o), some (.int sz), v11, v12] ∧
      Keep st H H'' ∧ StOk H'' st sc ∧ H'' p = some (.lst (ns.map V.str)) ∧ 0 ≤ o ∧ pl + 1 ≤ sz ∧ sz ≤ 8, ?_, ?_⟩
    · refine ⟨_, rfl, rfl, _, rfl, ?_⟩
      refine ite2 (fun _ => ?_) (fun _ => ⟨ba, pl + 1, rfl, kH, sH, hpH, ba0, by omega, by omega⟩)
      refine ⟨_, rfl, _, _, rfl, rfl, ⟨by decide, by decide, by decide⟩, st, sc, _, rfl, by decide, by decide, sH, fun o H5 o0 o1 k5 s5 _ => ?_⟩
      refine ⟨_, rfl, _, _, rfl, rfl, _, rfl, _, rfl, _, _, rfl, rfl, st, sc, _, rfl, by omega, by omega, s5, fun sz H6 z0 z1 k6 s6 _ => ⟨_, _, rfl, rfl, ?_⟩⟩
      exact ⟨o, _, rfl, kH.trans (k5.trans k6), s6, k6 _ _ nps (k5 _ _ nps hpH), o0, by omega, by omega⟩
    · rintro σ' H'' ⟨o, sz, rfl, kJ, sJ, hpJ, o0, sz0, sz1⟩
      -- name = ''; for at in range(size)
      refine ⟨_, rfl, sz, rfl, by omega, by omega, for_range (lo := 0) (n := sz.toNat) (fun j σ H5 => ∃ (o : Int) (z : Str) (v12 : Option V),
        σ = [some (.ref st), some (.int n), some (.int pl), some (.int fi), some (.int sh), some (.int ba), some (.str abc), some (.ref p), some (.int (0 + i)), some (.int o), some (.int sz), some (.str z), v12] ∧
        H5 = H'' ∧ 0 ≤ o ∧ z.length = j ∧ z.cps.toList.all lowc = true ∧ (pl.toNat < j → z.cps[pl.toNat]? = some (letK fi.toNat i)))
        ⟨o, "", v12, rfl, rfl, o0, by decide +kernel, by decide +kernel, fun h => by omega⟩ ?_ ?_⟩
      · rintro j σ H5 hj ⟨o, z, v12, rfl, rfl, o0, zl, za, zp⟩
        have zsz : z.length + 1 ≤ sizeLine := Nat.le_of_lt (small1000 (by omega))
        refine ⟨_, rfl, _, rfl, rfl, _, rfl, ?_⟩
        refine ite2 (fun c => ?_) (fun c => ?_)
        · have c' : (V.int (0 + (j : Int))) = V.int pl := of_decide_eq_true c
          have cj : (0 : Int) + (j : Int) = pl := by injection c'
          have m0 : 0 ≤ Int.fmod (fi + 7 * (0 + (i : Int))) 26 ∧ Int.fmod (fi + 7 * (0 + (i : Int))) 26 < 26 := by
            rw [Int.fmod_eq_emod_of_nonneg _ (by decide)]
            exact ⟨Int.emod_nonneg _ (by decide), Int.emod_lt_of_pos _ (by decide)⟩
          have mk : (Int.fmod (fi + 7 * (0 + (i : Int))) 26).toNat = (fi.toNat + 7 * i) % 26 := by
            rw [Int.fmod_eq_emod_of_nonneg _ (by decide)]
            omega
          refine ⟨_, rfl, _, rfl, _, rfl, _, rfl, _, _, rfl, rfl, .inl ⟨by decide, by decide⟩, _, _, rfl, rfl, .inl ⟨_, rfl, _, _, rfl, rfl, (by show (26 : Int) ≠ 0; decide), abc, _, _, rfl, rfl, abc_len, abc_at m0.1 m0.2, _, _, rfl, rfl, zsz, ?_⟩⟩
          refine ⟨o, _, _, rfl, rfl, o0, by rw [add_len, zl], add_low za (low_of m0.1 m0.2), fun _ => ?_⟩
          have hz : z.length = pl.toNat := by omega
          have e := add_new z (97 + (Int.fmod (fi + 7 * (0 + (i : Int))) 26).toNat)
          rw [hz, mk] at e
          unfold letK
          rw [mk]
          exact e
        · have m0 : 0 ≤ Int.fmod o 26 ∧ Int.fmod o 26 < 26 := by
            rw [Int.fmod_eq_emod_of_nonneg _ (by decide)]
            exact ⟨Int.emod_nonneg _ (by decide), Int.emod_lt_of_pos _ (by decide)⟩
          refine ⟨_, rfl, _, rfl, _, rfl, .inl ⟨_, rfl, _, _, rfl, rfl, (by show (26 : Int) ≠ 0; decide), abc, _, _, rfl, rfl, abc_len, abc_at m0.1 m0.2, _, _, rfl, rfl, zsz, ?_⟩⟩
          refine ⟨_, rfl, _, _, rfl, rfl, wide_div (b := 64) (by decide) (by decide) (by decide) (by decide), ?_⟩
          refine ⟨o / 26, _, _, rfl, rfl, Int.ediv_nonneg o0 (by decide), by rw [add_len, zl], add_low za (low_of m0.1 m0.2), fun hlt => ?_⟩
          have hne : ¬ (V.int (0 + (j : Int)) = V.int pl) := of_decide_eq_false (Bool.eq_false_iff.mpr c)
          have hne2 : ¬ ((0 : Int) + (j : Int) = pl) := fun e => hne (by rw [e])
          exact add_old (zp (by omega))
      · rintro σ H5 ⟨o, z, v12, rfl, rfl, o0, zl, za, zp⟩
        have hns : (ns.map V.str).length < sizeLine := small1000 (by rw [List.length_map]; omega)
        refine ⟨_, rfl, .inl ⟨rfl, _, SqL.of hpJ⟩, _, rfl, p, _, _, rfl, rfl, hpJ, hns, ?_⟩
        have hnm : isNm z = true := by
          unfold isNm
          rw [za, zl]
          simp
          omega
        refine ⟨_, _, _, _, _, ns ++ [z], rfl, kJ.own hp0, sJ.other nps npc, ?_, ?_, ?_⟩
        · rw [upd_same, List.map_append]; rfl
        · rw [List.length_append, hlen]; rfl
        · exact hN.snoc hnm (by rw [hlen]; exact zp (by omega))
  · rintro σ H' ⟨v8, v9, v10, v11, v12, ns, rfl, kH, sH, hpH, hlen, hN⟩
    refine ⟨_, rfl, q p ns H' kH sH hp0 nps npc hpH (by omega) ⟨hN.good, hN.nodup (by omega)⟩⟩
end
end K50
namespace K50
open PySem PySem.Spec PyProof.Rows L2 Td
theorem shape_of {d : PyData} (h : d.canLay0 = true) (k : d.depth ≤ 60) : SeqAt.shaped d = true := by
  unfold SeqAt.shaped
  rw [h, Bool.true_and]
  exact decide_eq_true (by omega)
/-! pairs of a kind and a name; a verdict's pairs -/
abbrev kindsL : List Str := ["mixed", "through", "twice", "needless", "missed", "long"]
abbrev Pr := Str × Str
def ltN (a b : Str) : Prop := a.cps.toList < b.cps.toList
theorem ltN_irrefl (a : Str) : ¬ ltN a a := List.lt_irrefl _
theorem ltN_asymm {a b : Str} (h : ltN a b) : ¬ ltN b a := List.lt_asymm h
theorem ltN_trans {a b c : Str} (h : ltN a b) (g : ltN b c) : ltN a c := List.lt_trans h g
theorem str_ext {a b : Str} (h : a.cps.toList = b.cps.toList) : a = b := by
  cases a; cases b; congr; exact Array.ext' h
theorem ltN_total {a b : Str} (h : ¬ ltN a b) (n : a ≠ b) : ltN b a := by
  rcases List.le_iff_lt_or_eq.mp (List.not_lt.mp h) with q | q
  · exact q
  · exact absurd (str_ext q.symm) n
/-- ascending, no two alike -/
theorem rising_all {p : Str} : ∀ {l : List Str}, risingS p l = true → (p :: l).Nodup → (p :: l).Pairwise ltN
  | [], _, _ => by simp
  | x :: r, h, n => by
    have h2 : (!ltCps x.cps.toList p.cps.toList) = true ∧ risingS x r = true := by
      have : (!ltCps x.cps.toList p.cps.toList && risingS x r) = true := h
      simpa using this
    obtain ⟨a, b⟩ := h2
    have n2 := (List.nodup_cons.mp n).2
    have ih := rising_all b n2
    have px : ltN p x := by
      refine ltN_total (fun q => ?_) (fun q => (List.nodup_cons.mp n).1 (q ▸ List.mem_cons_self))
      have e : ltCps x.cps.toList p.cps.toList = true := by rw [ltCps_eq]; exact decide_eq_true q
      rw [e] at a
      cases a
    refine List.pairwise_cons.mpr ⟨fun z hz => ?_, ih⟩
    rcases List.mem_cons.mp hz with q | q
    · rw [q]; exact px
    · exact ltN_trans px ((List.pairwise_cons.mp ih).1 z q)
theorem sorted_lt {l : List Str} (h : sortedS l = true) (n : l.Nodup) : l.Pairwise ltN := by
  cases l with
  | nil => exact List.Pairwise.nil
  | cons x r => exact rising_all h n
theorem rising_le {p : Str} : ∀ {l : List Str}, risingS p l = true → (p :: l).Pairwise fun a b => ¬ ltN b a
  | [], _ => by simp
  | x :: r, h => by
    have h2 : (!ltCps x.cps.toList p.cps.toList) = true ∧ risingS x r = true := by
      have : (!ltCps x.cps.toList p.cps.toList && risingS x r) = true := h
      simpa using this
    obtain ⟨a, b⟩ := h2
    have ih := rising_le b
    have px : ¬ ltN x p := fun q => by
      have e : ltCps x.cps.toList p.cps.toList = true := by rw [ltCps_eq]; exact decide_eq_true q
      rw [e] at a
      cases a
    refine List.pairwise_cons.mpr ⟨fun z hz => ?_, ih⟩
    rcases List.mem_cons.mp hz with q | q
    · rw [q]; exact px
    · intro zp
      have xz := (List.pairwise_cons.mp ih).1 z q
      by_cases e : x = z
      · exact px (e ▸ zp)
      · exact px (ltN_trans (ltN_total (fun y => xz y) (fun y => e y.symm)) zp)
theorem sorted_le {l : List Str} (h : sortedS l = true) : l.Pairwise fun a b => ¬ ltN b a := by
  cases l with
  | nil => exact List.Pairwise.nil
  | cons x r => exact rising_le h
/-- by kind, then by name -/
def ltP (x y : Pr) : Prop := kindsL.idxOf x.1 < kindsL.idxOf y.1 ∨ (x.1 = y.1 ∧ ltN x.2 y.2)
theorem ltP_irrefl (x : Pr) : ¬ ltP x x := fun h => h.elim (Nat.lt_irrefl _) fun q => ltN_irrefl _ q.2
theorem ltP_asymm {x y : Pr} (h : ltP x y) : ¬ ltP y x := fun g => by
  rcases h with h | ⟨e, h⟩ <;> rcases g with g | ⟨f, g⟩
  · exact absurd (Nat.lt_trans h g) (Nat.lt_irrefl _)
  · rw [f] at h; exact Nat.lt_irrefl _ h
  · rw [e] at g; exact Nat.lt_irrefl _ g
  · exact ltN_asymm h g
theorem asc_uniq : ∀ {l m : List Pr}, l.Pairwise ltP → m.Pairwise ltP → (∀ x, x ∈ l ↔ x ∈ m) → l = m
  | [], [], _, _, _ => rfl
  | [], y :: m, _, _, h => absurd ((h y).mpr List.mem_cons_self) (by simp)
  | x :: l, [], _, _, h => absurd ((h x).mp List.mem_cons_self) (by simp)
  | x :: l, y :: m, hl, hm, h => by
    obtain ⟨l1, l2⟩ := List.pairwise_cons.mp hl
    obtain ⟨m1, m2⟩ := List.pairwise_cons.mp hm
    have e : x = y := by
      rcases List.mem_cons.mp ((h x).mp List.mem_cons_self) with q | q
      · exact q
      · rcases List.mem_cons.mp ((h y).mpr List.mem_cons_self) with r | r
        · exact r.symm
        · exact absurd (l1 y r) (ltP_asymm (m1 x q))
    subst e
    congr 1
    refine asc_uniq l2 m2 fun z => ?_
    constructor
    · intro q
      rcases List.mem_cons.mp ((h z).mp (List.mem_cons_of_mem _ q)) with r | r
      · exact absurd (l1 z q) (r ▸ ltP_irrefl _)
      · exact r
    · intro q
      rcases List.mem_cons.mp ((h z).mpr (List.mem_cons_of_mem _ q)) with r | r
      · exact absurd (m1 z q) (r ▸ ltP_irrefl _)
      · exact r
/-- L: the pairs ps, each once, by kind and then by name -/
structure IsV (ps L : List Pr) : Prop where
  asc : L.Pairwise ltP
  mem : ∀ x, x ∈ L ↔ x ∈ ps ∧ x.1 ∈ kindsL
theorem IsV.uniq {ps L M : List Pr} (a : IsV ps L) (b : IsV ps M) : L = M := asc_uniq a.asc b.asc fun x => (a.mem x).trans (b.mem x).symm
theorem IsV.congr {ps qs L : List Pr} (a : IsV ps L) (h : ∀ x, x.1 ∈ kindsL → (x ∈ ps ↔ x ∈ qs)) : IsV qs L := ⟨a.asc, fun x => (a.mem x).trans ⟨fun q => ⟨(h x q.2).mp q.1, q.2⟩, fun q => ⟨(h x q.2).mpr q.1, q.2⟩⟩⟩
theorem asc_nodup {L : List Pr} (h : L.Pairwise ltP) : L.Nodup := List.Pairwise.imp (fun {a b} (q : ltP a b) (e : a = b) => ltP_irrefl a (by rw [← e] at q; exact q)) h
theorem sub_len : ∀ {l m : List Pr}, l.Nodup → (∀ x ∈ l, x ∈ m) → l.length ≤ m.length
  | [], _, _, _ => Nat.zero_le _
  | x :: l, m, n, h => by
    obtain ⟨n1, n2⟩ := List.nodup_cons.mp n
    have hx := h x List.mem_cons_self
    have ih := sub_len (m := m.erase x) n2 fun y hy => (List.mem_erase_of_ne (fun e => n1 (by rw [← e]; exact hy))).mpr (h y (List.mem_cons_of_mem _ hy))
    rw [List.length_erase_of_mem hx] at ih
    have := List.length_pos_of_mem hx
    simp only [List.length_cons]
    omega
theorem IsV.len {ps L : List Pr} (a : IsV ps L) : L.length ≤ ps.length := sub_len (asc_nodup a.asc) fun x h => ((a.mem x).mp h).1
theorem IsV.kind {ps L : List Pr} (a : IsV ps L) {x : Pr} (h : x ∈ L) : x.1 ∈ kindsL := ((a.mem x).mp h).2
/-- a block of one kind behind what is there -/
theorem asc_more {L : List Pr} {k : Str} {ns : List Str} (hL : L.Pairwise ltP) (hk : ∀ x ∈ L, kindsL.idxOf x.1 < kindsL.idxOf k) (hn : ns.Pairwise ltN) : (L ++ ns.map fun n => (k, n)).Pairwise ltP := by
  refine List.pairwise_append.mpr ⟨hL, ?_, fun x hx y hy => ?_⟩
  · exact List.pairwise_map.mpr (hn.imp fun h => .inr ⟨rfl, h⟩)
  · obtain ⟨n, _, rfl⟩ := List.mem_map.mp hy
    exact .inl (hk x hx)
def pairD (x : Pr) : PyData := .tuple [.str x.1, .str x.2]
theorem beq_dec (u v : Str) : (u == v) = decide (u = v) := by by_cases h : u = v <;> simp [h]
theorem pairD_eqv (x y : Pr) : PyData.eqv (pairD x) (pairD y) = decide (x = y) := by
  obtain ⟨a, b⟩ := x
  obtain ⟨c, d⟩ := y
  simp only [pairD, PyData.eqv, PyData.eqvAll, Bool.and_true, Prod.mk.injEq, Bool.decide_and, beq_dec]
theorem pairs_eqv : ∀ (l m : List Pr), PyData.eqvAll (l.map pairD) (m.map pairD) = decide (l = m)
  | [], [] => by simp [PyData.eqvAll]
  | [], _ :: _ => by simp [PyData.eqvAll]
  | _ :: _, [] => by simp [PyData.eqvAll]
  | x :: l, y :: m => by
    simp only [List.map_cons, PyData.eqvAll, pairD_eqv, pairs_eqv l m, List.cons.injEq, Bool.decide_and]
theorem pairs_any (x : Pr) : ∀ l : List Pr, ((l.map pairD).any fun z => PyData.eqv z (pairD x)) = decide (x ∈ l)
  | [] => by simp
  | y :: l => by
    simp only [List.map_cons, List.any_cons, pairD_eqv, pairs_any x l, List.mem_cons, Bool.decide_or]
    by_cases h : y = x
    · subst h; simp
    · have : ¬ x = y := fun e => h e.symm
      simp [h, this]
theorem strs_any (z : Str) : ∀ l : List Str, ((l.map PyData.str).any fun y => PyData.eqv y (.str z)) = decide (z ∈ l)
  | [] => by simp
  | y :: l => by
    simp only [List.map_cons, List.any_cons, PyData.eqv, strs_any z l, List.mem_cons, Bool.decide_or]
    by_cases h : y = z
    · subst h; simp
    · have : ¬ z = y := fun e => h e.symm
      simp [h, this]
/-- texts and pairs that can be laid -/
def shS (z : Str) : Prop := PyData.strOk z = true
def shP (x : Pr) : Prop := shS x.1 ∧ shS x.2
theorem all_lay {ds : List PyData} {n : Nat} (h : ∀ x ∈ ds, x.canLay0 = true ∧ x.depth ≤ n) : (PyData.tuple ds).canLay0 = true ∧ (PyData.tuple ds).depth ≤ n + 1 ∧ (PyData.list ds).canLay0 = true ∧ (PyData.list ds).depth ≤ n + 1 := by
  have k : PyData.canLayAll0 ds = true ∧ PyData.depthAll ds ≤ n := by
    induction ds with
    | nil => exact ⟨by simp only [PyData.canLayAll0], by simp only [PyData.depthAll]; omega⟩
    | cons d r ih =>
      obtain ⟨a, b⟩ := ih fun x hx => h x (List.mem_cons_of_mem _ hx)
      obtain ⟨c, e⟩ := h d List.mem_cons_self
      exact ⟨by simp only [PyData.canLayAll0, a, c, Bool.and_self], by simp only [PyData.depthAll]; omega⟩
  exact ⟨by simp only [PyData.canLay0, k.1], by simp only [PyData.depth]; have := k.2; omega, by simp only [PyData.canLay0, k.1], by simp only [PyData.depth]; have := k.2; omega⟩
theorem str_lay {z : Str} (h : shS z) : (PyData.str z).canLay0 = true ∧ (PyData.str z).depth ≤ 1 := ⟨by simp only [PyData.canLay0]; exact h, by simp [PyData.depth]⟩
theorem pair_lay {x : Pr} (h : shP x) : (pairD x).canLay0 = true ∧ (pairD x).depth ≤ 2 := by
  have k := all_lay (ds := [.str x.1, .str x.2]) (n := 1) fun d hd => by
    rcases List.mem_cons.mp hd with q | q
    · rw [q]; exact str_lay h.1
    · rw [List.mem_singleton.mp q]; exact str_lay h.2
  exact ⟨k.1, k.2.1⟩
theorem pairs_lay {l : List Pr} (h : ∀ x ∈ l, shP x) : SeqAt.shaped (.tuple (l.map pairD)) = true ∧ SeqAt.shaped (.list (l.map pairD)) = true := by
  have k := all_lay (ds := l.map pairD) (n := 2) fun d hd => by
    obtain ⟨x, hx, rfl⟩ := List.mem_map.mp hd
    exact pair_lay (h x hx)
  exact ⟨shape_of k.1 (by omega), shape_of k.2.2.1 (by omega)⟩
theorem texts_lay {l : List Str} (h : ∀ x ∈ l, shS x) : SeqAt.shaped (.tuple (l.map PyData.str)) = true ∧ SeqAt.shaped (.list (l.map PyData.str)) = true := by
  have k := all_lay (ds := l.map PyData.str) (n := 1) fun d hd => by
    obtain ⟨x, hx, rfl⟩ := List.mem_map.mp hd
    exact str_lay (h x hx)
  exact ⟨shape_of k.1 (by omega), shape_of k.2.2.1 (by omega)⟩
theorem kinds_sh : ∀ z ∈ kindsL, shS z := by
  show ∀ z ∈ kindsL, PyData.strOk z = true
  decide +kernel
end K50
namespace K50
open PySem PySem.Spec PyProof.Rows L2 Td
/-- what is walked is now a list, now a tuple -/
def iOr (a b : TI) : TI := fun σ H R => a σ H R ∨ b σ H R
theorem pi_or {X : Cx} {tg it : Expr} {a b : TI} (h : PI X tg it a) (g : PI X tg it b) : PI X tg it (iOr a b) := ⟨fun pins s σ H R I w => w.elim (h.run pins s σ H R I) (g.run pins s σ H R I)⟩
/-- a list of pairs, a tuple of pairs -/
def PrsL (K : PySem.W.Frag) (H : Hp) (a : Addr) (ps : List Pr) : Prop := ∃ xs, SqL K H a xs ∧ TnAll K H xs (ps.map pairD)
def PrsT (K : PySem.W.Frag) (H : Hp) (a : Addr) (ps : List Pr) : Prop := ∃ xs, SqT K H a xs ∧ TnAll K H xs (ps.map pairD)
section
variable {K : PySem.W.Frag} {H H' : Hp} {a : Addr} {ps : List Pr} {xs : List V}
theorem PrsT.tk (k : TK H H') (h : PrsT K H a ps) : PrsT K H' a ps := by
  obtain ⟨xs, h1, h2⟩ := h
  exact ⟨xs, SqT.tk k h1, TnAll.keep k h2⟩
theorem PrsT.same (s : Same H H') (h : PrsT K H a ps) : PrsT K H' a ps := h.tk (TK.of_same s)
theorem PrsL.same (s : Same H H') (h : PrsL K H a ps) : PrsL K H' a ps := by
  obtain ⟨xs, h1, h2⟩ := h
  exact ⟨xs, SqL.same s h1, TnAll.keep (TK.of_same s) h2⟩
theorem PrsL.keep {st : Addr} (s : Keep st H H') (ch : Chg (H st)) (n : a ≠ st) (h : PrsL K H a ps) : PrsL K H' a ps := by
  obtain ⟨xs, h1, h2⟩ := h
  exact ⟨xs, SqL.keep s n h1, TnAll.keep (TK.of_keep s ch) h2⟩
theorem pr_inv {v : V} {x : Pr} (h : Tn K H v (pairD x)) : ∃ b, v = .ref b ∧ SqT K H b [.str x.1, .str x.2] := by
  obtain ⟨b, es, rfl, h1, h2⟩ := Tn.tup_inv h
  cases h2 with
  | cons a1 a2 =>
    cases a1
    cases a2 with
    | cons a3 a4 =>
      cases a3
      cases a4
      exact ⟨b, rfl, h1⟩
theorem prs_at {i : Nat} {v : V} (h : TnAll K H xs (ps.map pairD)) (hi : xs[i]? = some v) : ∃ x b, ps[i]? = some x ∧ v = .ref b ∧ Tn K H v (pairD x) ∧ SqT K H b [.str x.1, .str x.2] := by
  obtain ⟨d, hd, ht⟩ := TnAll.get h hi
  rw [List.getElem?_map] at hd
  obtain ⟨x, hx, rfl⟩ := Option.map_eq_some_iff.mp hd
  obtain ⟨b, rfl, hb⟩ := pr_inv ht
  exact ⟨x, b, hx, rfl, ht, hb⟩
theorem prs_len (h : TnAll K H xs (ps.map pairD)) : xs.length = ps.length := by rw [TnAll.length h, List.length_map]
end
def verdF (t : Addr) : List (Str × V) := [("_pairs", .ref t)]
/-- a verdict and its pairs -/
def VAt (K : PySem.W.Frag) (H : Hp) (C a : Addr) (L : List Pr) : Prop := ∃ dx t, H a = some (.ins C dx (verdF t)) ∧ PrsT K H t L
theorem VAt.same {K : PySem.W.Frag} {H H' : Hp} {C a : Addr} {L : List Pr} (s : Same H H') (h : VAt K H C a L) : VAt K H' C a L := by
  obtain ⟨dx, t, h1, h2⟩ := h
  exact ⟨dx, t, s _ _ h1, h2.same s⟩
/-- pairs handed in: a list or a tuple -/
def PrsA (K : PySem.W.Frag) (H : Hp) (a : Addr) (ps : List Pr) : Prop := PrsL K H a ps ∨ PrsT K H a ps
/-- the first kind that is none -/
def badK (ps : List Pr) : Option Str := (ps.map (·.1)).find? fun k => !decide (k ∈ kindsL)
theorem badK_none {ps : List Pr} (h : badK ps = none) : ∀ x ∈ ps, x.1 ∈ kindsL := fun x hx => by
  have := List.find?_eq_none.mp h x.1 (List.mem_map.mpr ⟨x, hx, rfl⟩)
  rw [Bool.not_eq_true, Bool.not_eq_false'] at this
  exact of_decide_eq_true this
theorem badK_of {ps : List Pr} (h : ∀ x ∈ ps, x.1 ∈ kindsL) : badK ps = none := List.find?_eq_none.mpr fun k hk => by
  obtain ⟨x, hx, rfl⟩ := List.mem_map.mp hk
  rw [decide_eq_true (h x hx)]; simp
def spCheckKind (CI : Addr) : Sp := fun vs H Q E => ∃ k : Str, vs = [.str k] ∧ shS k ∧ (k ∈ kindsL → ∀ H', Same H H' → Q .non H') ∧ (k ∉ kindsL → Rz CI "kind" (.str k) H E)
def spVerd (K : PySem.W.Frag) (C CI : Addr) : Sp := fun vs H Q E => ∃ (a dx p : Addr) (ps : List Pr), vs = [.ref a, .ref p] ∧ H a = some (.ins C dx []) ∧ PrsA K H p ps ∧ ps.length ≤ 60 ∧ (∀ x ∈ ps, shP x) ∧
  (badK ps = none → ∀ (L : List Pr) (t : Addr) (H1 : Hp), IsV ps L → Same H H1 → PrsT K H1 t L → H1 a = some (.ins C dx []) → Q .non (upd H1 a (.ins C dx (verdF t)))) ∧
  (∀ k, badK ps = some k → Rz CI "kind" (.str k) H E)
/-- a walk of a tuple, of a list, over what a turn asks -/
theorem walkT {K : PySem.W.Frag} {a : Addr} {xs : List V} {In : (Hp → Prop) → V → Hp → Prop} {H0 : Hp} {Qd : Hp → Prop} (Pv : Nat → Hp → Prop) (h0 : Pv 0 H0) (seq : ∀ i H, Pv i H → SqT K H a xs) (turn : ∀ i x H, xs[i]? = some x → Pv i H → In (Pv (i + 1)) x H) (over : ∀ H, Pv xs.length H → Qd H) :
    ∃ W : Nat → Nat → Hp → Prop, (∃ m, W 0 m H0) ∧ ∀ i m H, W i m H → ((Itt K a).stop i H ∧ Qd H) ∨ ((Itt K a).go i H ∧ ∃ Nx : Hp → Prop, (∀ H', Nx H' → ∃ m', m' < m ∧ W (i + 1) m' H') ∧ ∀ x H', (Itt K a).yld i H x H' → In Nx x H') :=
  ⟨fun i m H => i + m = xs.length ∧ Pv i H, ⟨_, Nat.zero_add _, h0⟩, fun i m H ⟨e, p⟩ => match m, e with
    | 0, e => .inl ⟨⟨xs, seq i H p, Nat.le_of_eq e.symm⟩, over H (by rw [← e]; exact p)⟩
    | m + 1, e => .inr ⟨⟨xs, xs[i]'(by omega), seq i H p, List.getElem?_eq_getElem (by omega)⟩, Pv (i + 1), fun H' p' => ⟨m, Nat.lt_succ_self m, by omega, p'⟩, fun x H' ⟨eh, y⟩ => by subst eh; exact turn i x _ (y xs (seq i _ p)) p⟩⟩
theorem walkL {K : PySem.W.Frag} {a : Addr} {xs : List V} {In : (Hp → Prop) → V → Hp → Prop} {H0 : Hp} {Qd : Hp → Prop} (Pv : Nat → Hp → Prop) (h0 : Pv 0 H0) (seq : ∀ i H, Pv i H → SqL K H a xs) (turn : ∀ i x H, xs[i]? = some x → Pv i H → In (Pv (i + 1)) x H) (over : ∀ H, Pv xs.length H → Qd H) :
    ∃ W : Nat → Nat → Hp → Prop, (∃ m, W 0 m H0) ∧ ∀ i m H, W i m H → ((Itl K a).stop i H ∧ Qd H) ∨ ((Itl K a).go i H ∧ ∃ Nx : Hp → Prop, (∀ H', Nx H' → ∃ m', m' < m ∧ W (i + 1) m' H') ∧ ∀ x H', (Itl K a).yld i H x H' → In Nx x H') :=
  ⟨fun i m H => i + m = xs.length ∧ Pv i H, ⟨_, Nat.zero_add _, h0⟩, fun i m H ⟨e, p⟩ => match m, e with
    | 0, e => .inl ⟨⟨xs, seq i H p, Nat.le_of_eq e.symm⟩, over H (by rw [← e]; exact p)⟩
    | m + 1, e => .inr ⟨⟨xs, xs[i]'(by omega), seq i H p, List.getElem?_eq_getElem (by omega)⟩, Pv (i + 1), fun H' p' => ⟨m, Nat.lt_succ_self m, by omega, p'⟩, fun x H' ⟨eh, y⟩ => by subst eh; exact turn i x _ (y xs (seq i _ p)) p⟩⟩
/-- a walk of pairs that lie in a list or in a tuple -/
theorem forA {K : PySem.W.Frag} {n : Nat} {p : Addr} {xs : List V} {g : TG} {tb : TS} {D : Ends} {σ : L2.St} {H : Hp} (hq : SqL K H p xs ∨ SqT K H p xs) (var : σ[n]? = some (some (.ref p))) (Pv : Nat → L2.St → Hp → Prop) (h0 : Pv 0 σ H) (keep : ∀ i σ H', Pv i σ H' → Same H H')
    (turn : ∀ i x σ H', xs[i]? = some x → Pv i σ H' → g x σ H' fun σ2 H2 => tb { D with nx := Pv (i + 1), ct := Pv (i + 1), bk := D.nx } σ2 H2) (over : ∀ σ H', Pv xs.length σ H' → D.nx σ H') : tFor (iOr (iList K (tVar n)) (iTup K (tVar n))) g tb D σ H := by
  rcases hq with hq | hq
  · exact .inl ⟨_, var, p, rfl, ⟨xs, hq⟩, for_list Pv h0 (fun i σ H' _ v => SqL.same (keep i σ H' v) hq) turn over⟩
  · exact .inr ⟨_, var, p, rfl, ⟨xs, hq⟩, for_tup Pv h0 (fun i σ H' _ v => SqT.same (keep i σ H' v) hq) turn over⟩
theorem fiA {K : PySem.W.Frag} {n : Nat} {p : Addr} {xs : List V} {g : TG} {tt : TT} {te : TE} {vs : List Nat} {σ : L2.St} {H : Hp} {Q : VK} {α : Type} (L : List α) (en : α → V) (f : α → Bool) (el : α → V) (hq : SqL K H p xs ∨ SqT K H p xs) (var : σ[n]? = some (some (.ref p))) (hx : xs = L.map en) (hlen : L.length ≤ 1000)
    (turn : ∀ (i : Nat) (x : α) (H' : Hp), L[i]? = some x → Same H H' → ∀ (Yes : V → Hp → Prop) (No : Hp → Prop), (f x = true → ∀ (H2 : Hp), Same H' H2 → Yes (el x) H2) → (f x = false → ∀ (H2 : Hp), Same H' H2 → No H2) → Td.Turn g tt te vs σ (en x) H' Yes No)
    (over : ∀ (D : Addr) (H' : Hp), H D = none → Same H H' → H' D = some (.lst ((L.filter f).map el)) → Q (.ref D) H') : tLc (iOr (iList K (tVar n)) (iTup K (tVar n))) g tt te vs σ H Q := by
  rcases hq with hq | hq
  · exact .inl ⟨_, var, p, rfl, ⟨xs, hq⟩, fun D hD => fiS_list L en f el hq hx hlen hD turn fun H' s h => over D H' hD s h⟩
  · exact .inr ⟨_, var, p, rfl, ⟨xs, hq⟩, fun D hD => fiS_tup L en f el hq hx hlen hD turn fun H' s h => over D H' hD s h⟩
theorem iSort {K : PySem.W.Frag} {t : TE} {σ : L2.St} {H : Hp} {R : It → Hp → Prop} (h : t σ H fun x H1 => ∃ (l : Addr) (xs : List Str), x = .ref l ∧ SqL K H1 l (xs.map V.str) ∧ xs.length < 64 ∧
      ∀ (ys : List Str) (p : Addr), sortedS ys = true → ys.Nodup → (∀ k, k ∈ ys ↔ k ∈ xs) → ys.length ≤ xs.length → H1 p = none → ∃ a, V.ref p = .ref a ∧ (∃ xs, SqL K (upd H1 p (.lst (ys.map V.str))) a xs) ∧ R (Itl K a) (upd H1 p (.lst (ys.map V.str)))) :
    iList K (tSortSet K t) σ H R := h
theorem zip_right {α β γ : Type} (f : β → Bool) (g : β → γ) : ∀ {xs : List α} {ps : List β}, xs.length = ps.length → ((xs.zip ps).filter fun z => f z.2).map (fun z => g z.2) = (ps.filter f).map g
  | [], [], _ => rfl
  | x :: xs, p :: ps, h => by
    have ih := zip_right f g (xs := xs) (ps := ps) (by simpa using h)
    simp only [List.zip_cons_cons, List.filter_cons]
    split <;> simp [ih]
theorem zip_left {α β : Type} : ∀ {xs : List α} {ps : List β}, xs.length = ps.length → xs = (xs.zip ps).map (·.1)
  | [], [], _ => rfl
  | x :: xs, p :: ps, h => by simp [← zip_left (xs := xs) (ps := ps) (by simpa using h)]
theorem eq_str (a b : Str) : decide (V.str a = V.str b) = decide (a = b) := by
  by_cases h : a = b
  · rw [h, decide_eq_true rfl, decide_eq_true rfl]
  · rw [decide_eq_false (fun e => h (by injection e)), decide_eq_false h]
theorem badK_at {ps : List Pr} {i : Nat} {y : Pr} (hy : ps[i]? = some y) (al : ∀ x ∈ ps.take i, x.1 ∈ kindsL) (n : y.1 ∉ kindsL) : badK ps = some y.1 := by
  unfold badK
  have e : ps = ps.take i ++ y :: ps.drop (i + 1) := by
    obtain ⟨hi, q⟩ := List.getElem?_eq_some_iff.mp hy
    rw [← q, ← List.drop_eq_getElem_cons hi, List.take_append_drop]
  rw [e, List.map_append, List.find?_append, List.find?_eq_none.mpr (fun k hk => ?_)]
  · rw [List.map_cons, List.find?_cons_of_pos (by rw [decide_eq_false n]; rfl)]
    rfl
  · obtain ⟨x, hx, rfl⟩ := List.mem_map.mp hk
    rw [decide_eq_true (al x hx)]
    simp
theorem kidx : ∀ {i : Nat} {k : Str}, kindsL[i]? = some k → kindsL.idxOf k = i
  | 0, _, h => by cases h; decide +kernel
  | 1, _, h => by cases h; decide +kernel
  | 2, _, h => by cases h; decide +kernel
  | 3, _, h => by cases h; decide +kernel
  | 4, _, h => by cases h; decide +kernel
  | 5, _, h => by cases h; decide +kernel
  | _ + 6, _, h => by cases h
theorem kidx_lt {i : Nat} {k x : Str} (h : kindsL[i]? = some k) (hx : x ∈ kindsL.take i) : kindsL.idxOf x < kindsL.idxOf k := by
  obtain ⟨j, hj⟩ := List.mem_iff_getElem?.mp hx
  rw [List.getElem?_take] at hj
  split at hj
  · rw [kidx h, kidx hj]; assumption
  · cases hj
theorem take_more {α : Type} {l : List α} {i : Nat} {x : α} (h : l[i]? = some x) : l.take (i + 1) = l.take i ++ [x] := by rw [List.take_add_one, h]; rfl
/-- the names of a kind -/
def namesOf (k : Str) (ps : List Pr) : List Str := (ps.filter fun x => decide (x.1 = k)).map (·.2)
theorem namesOf_mem {k n : Str} {ps : List Pr} : n ∈ namesOf k ps ↔ (k, n) ∈ ps := by
  unfold namesOf
  rw [List.mem_map]
  constructor
  · rintro ⟨x, hx, rfl⟩
    obtain ⟨h1, h2⟩ := List.mem_filter.mp hx
    have := of_decide_eq_true h2
    rw [← this]
    exact h1
  · intro h
    exact ⟨(k, n), List.mem_filter.mpr ⟨h, decide_eq_true rfl⟩, rfl⟩
section
variable {P : Program} {w : World} {K : PySem.W.Frag} {mg : Str → Option Value} {base : Heap}
theorem ok_InvalidKind (T : Tops w K mg) : FnOk P w K mg base CX0 1 T.a_InvalidKind_init T.d_InvalidKind_init ["self", "kind"] (spExc K T.c_InvalidKind "kind") := by
  refine T.F_InvalidKind_init.ok sc_InvalidKind_init (fun vs H Q E h => ?_) (fun cdv A outer s H vs Q E hr h => ?_)
  · obtain ⟨a, y, rfl, _⟩ := h; rfl
  obtain ⟨a, y, rfl, ha, q⟩ := h
  exact ⟨_, (pss_one (ps_ost (pv 0) (pv 1))), _, rfl, _, rfl, a, T.c_InvalidKind, rfl, T.x_InvalidKind, T.n_InvalidKind_kind, .inl ⟨ha, fun dx h1 h2 => q dx _ h1 h2 rfl⟩⟩
theorem ok_check_kind (T : Tops w K mg) (G_InvalidKind_init : FnOk P w K mg base CX0 1 T.a_InvalidKind_init T.d_InvalidKind_init ["self", "kind"] (spExc K T.c_InvalidKind "kind")) :
    FnOk P w K mg base (L2.CX P w) 3 T.a_check_kind T.d_check_kind ["kind"] (spCheckKind T.c_InvalidKind) := by
  refine T.F_check_kind.okX sc_check_kind (fun vs H Q E h => ?_) (fun cdv A outer s H vs Q E hr h => ?_)
  · obtain ⟨k, rfl, _⟩ := h; rfl
  obtain ⟨k, rfl, hk, q, r⟩ := h
  refine ⟨_, (pss_one (ps_if (pt_cmpR op_notIn_seq (pv 0) (pe_glob (v := .ref T.a_KINDS) rfl T.c_KINDS rfl) (by rfl)) (pss_one (ps_raise rfl (takes_of rfl rfl rfl rfl) (pmk_oex T.x_InvalidKind T.xi_InvalidKind T.xt_InvalidKind G_InvalidKind_init (hr.mono (by omega)) T.b_InvalidKind_init .nil pass0 rfl T.m_InvalidKind (pa_cons (pv 0) pa_nil)))) pss_nil)), ?_⟩
  refine ⟨_, rfl, T.a_KINDS, kindsL.map V.str, rfl, .inr (T.w_KINDS _), rfl, Td.flat_strs _, _, rfl, ?_⟩
  show (if (!inV (.str k) (kindsL.map V.str)) = true then _ else _)
  rw [inV_strs]
  by_cases m : k ∈ kindsL
  · rw [decide_eq_true m]
    exact if_false_of rfl (q m H (Same.refl _))
  · rw [decide_eq_false m]
    exact if_true_of rfl ⟨_, rfl, made_one (r m)⟩
theorem ok_verd (T : Tops w K mg) (G_check_kind : FnOk P w K mg base (L2.CX P w) 3 T.a_check_kind T.d_check_kind ["kind"] (spCheckKind T.c_InvalidKind)) :
    FnOk P w K mg base (L2.CX P w) 5 T.a_Verdict_init T.d_Verdict_init ["self", "pairs"] (spVerd K T.c_Verdict T.c_InvalidKind) := by
  refine T.F_Verdict_init.okX sc_Verdict_init (fun vs H Q E h => ?_) (fun cdv A outer s H vs Q E hr h => ?_)
  · obtain ⟨a, dx, p, ps, rfl, _⟩ := h; rfl
  obtain ⟨a, dx, p, ps, rfl, ha, hp, h60, hsh, q, r⟩ := h
  refine ⟨_, (pss_cons (ps_for (passes_of rfl) rfl (pi_or (pi_list (pv 1)) (pi_tup (pv 1))) (pg_tup rfl (pgs_cons (pg_name (i := 2) sc_Verdict_init.nd rfl (Or.inl rfl)) (pgs_cons (pg_name (i := 3) sc_Verdict_init.nd rfl (Or.inl rfl)) pgs_nil))) (pss_one (ps_expr (pe_call G_check_kind (hr.mono (by omega)) rfl T.m_check_kind T.F_check_kind.kp T.b_check_kind .nil (passes_call (takes_of rfl rfl rfl rfl) (fun _ _ _ _ h => h)) (pa_cons (pv 2) pa_nil)))))
    (pss_one (ps_fld (pv 0) (pe_callTy (T := "tuple") call_tuple_of rfl T.z_tuple (by decide +kernel) (pa_cons (pe_lc2 (own := [(("own" : Str), 4), (("name" : Str), 5)]) (vs1 := [5]) (wi := (iTup K (tC (.ref T.a_KINDS)))) (wi1 := (iList K (tSortSet K (tLc (iOr (iList K (tVar 1)) (iTup K (tVar 1))) (gTup K 2 (gCons (gName 6) (gCons (gName 7) gNil))) (tTest (tOp rEq (tVar 6) (tVar 4))) (tVar 7) (List.map (fun x => x.2) [(("pair_kind" : Str), 6), (("each" : Str), 7)]))))) (g := gName 4) (g1 := gName 5) (tt := tYes) (tt1 := tYes) (te := (tTup (tCons (tVar 4) (tCons (tVar 5) tNil)))) rfl sc_Verdict_init.nd (pi_tup (pe_glob (v := .ref T.a_KINDS) rfl T.c_KINDS rfl)) (blkOk_by (own := [(("own" : Str), 4), (("name" : Str), 5)]) (N := N_Verdict_init) (sc := defScope s_Verdict_init) (by decide +kernel)) (by decide) (fun _ _ _ _ _ => (pg_name (i := 4) sc_Verdict_init.nd rfl (Or.inr rfl))) (fun _ _ _ _ _ => pts_nil) (fun _ _ _ _ _ => (pi_list (pe_sortSet rfl rfl T.z_sorted rfl T.z_set (by exact (pe_lc (own := [(("pair_kind" : Str), 6), (("each" : Str), 7)]) (wi := (iOr (iList K (tVar 1)) (iTup K (tVar 1)))) (g := gTup K 2 (gCons (gName 6) (gCons (gName 7) gNil))) (tt := (tTest (tOp rEq (tVar 6) (tVar 4)))) (te := (tVar 7)) rfl sc_Verdict_init.nd (pi_or (pi_list (pv 1)) (pi_tup (pv 1))) (blkOk_by (own := [(("pair_kind" : Str), 6), (("each" : Str), 7)]) (by kernel_rfl)) (fun _ _ _ _ _ => (pg_tup rfl (pgs_cons (pg_name (i := 6) sc_Verdict_init.nd rfl (Or.inl rfl)) (pgs_cons (pg_name (i := 7) sc_Verdict_init.nd rfl (Or.inl rfl)) pgs_nil)))) (fun _ _ _ _ _ => (pts_one (pt_cmpR op_eq (pv 6) (pv 4) (nomark _)))) (fun _ _ _ _ _ => (pv 7))))))) (fun _ _ _ _ _ => (pg_name (i := 5) sc_Verdict_init.nd rfl (Or.inl rfl))) (fun _ _ _ _ _ => pts_nil) (fun _ _ _ _ _ => (pe_tup (pa_cons (pv 4) (pa_cons (pv 5) pa_nil))))) pa_nil)) rfl))), ?_⟩
  obtain ⟨xs, hq, hT⟩ : ∃ xs, (SqL K H p xs ∨ SqT K H p xs) ∧ TnAll K H xs (ps.map pairD) := by
    rcases hp with ⟨xs, h1, h2⟩ | ⟨xs, h1, h2⟩
    · exact ⟨xs, .inl h1, h2⟩
    · exact ⟨xs, .inr h1, h2⟩
  have xl := prs_len hT
  -- the kinds are looked at, in order
  let Pv : Nat → L2.St → Hp → Prop := fun i σ H' => ∃ (v2 v3 v4 v5 v6 v7 : Option V), σ = [some (.ref a), some (.ref p), v2, v3, v4, v5, v6, v7] ∧ Same H H' ∧ ∀ x ∈ ps.take i, x.1 ∈ kindsL
  refine forA hq rfl Pv ⟨none, none, none, none, none, none, rfl, Same.refl _, fun x hx => by simp at hx⟩ (fun i σ H' ⟨_, _, _, _, _, _, _, s1, _⟩ => s1) ?_ ?_
  · rintro i x σ H' hi ⟨v2, v3, v4, v5, v6, v7, rfl, s1, al⟩
    obtain ⟨y, b, hy, rfl, hty, hb⟩ := prs_at hT hi
    have hy2 : y ∈ ps := List.mem_of_getElem? hy
    refine ⟨b, _, rfl, SqT.same s1 hb, rfl, _, _, rfl, _, _, rfl, rfl, ?_⟩
    refine ⟨_, rfl, y.1, rfl, (hsh y hy2).1, fun m H2 s2 => ?_, fun m => ?_⟩
    · refine ⟨some (.str y.1), some (.str y.2), v4, v5, v6, v7, rfl, s1.trans s2, fun x hx => ?_⟩
      rw [take_more hy] at hx
      rcases List.mem_append.mp hx with hx | hx
      · exact al x hx
      · rw [List.mem_singleton.mp hx]; exact m
    · exact (r y.1 (badK_at hy al m)).later s1
  · rintro σ H1 ⟨v2, v3, v4, v5, v6, v7, rfl, s1, al⟩
    have bk : badK ps = none := badK_of fun x hx => al x (by rw [List.take_of_length_le (by omega)]; exact hx)
    have hq1 : SqL K H1 p xs ∨ SqT K H1 p xs := hq.imp (SqL.same s1) (SqT.same s1)
    have hT1 := TnAll.keep (TK.of_same s1) hT
    refine ⟨T.a_KINDS, rfl, ⟨_, T.w_KINDS _⟩, fun D hD => walkT (K := K) (a := T.a_KINDS) (xs := kindsL.map V.str) (fun i H' => ∃ (zs : List V) (L : List Pr), Same H1 H' ∧ H' D = some (.lst zs) ∧ TnAll K H' zs (L.map pairD) ∧ L.Pairwise ltP ∧ ∀ x, x ∈ L ↔ x ∈ ps ∧ x.1 ∈ kindsL.take i) ?_ (fun i H' _ => T.w_KINDS _) ?_ ?_⟩
    · exact ⟨[], [], Same.new hD _, upd_same, .nil, .nil, fun x => by simp⟩
    · rintro i x H2 hx ⟨zs, L, s2, hz, hTz, asc, mem⟩
      rw [List.getElem?_map] at hx
      obtain ⟨k, hk, rfl⟩ := Option.map_eq_some_iff.mp hx
      have hT2 := TnAll.keep (TK.of_same s2) hT1
      refine ⟨rfl, tYes_of ?_⟩
      refine iSort (fiA (n := 1) (xs.zip ps) Prod.fst (fun z => decide (z.2.1 = k)) (fun z => .str z.2.2) (hq1.imp (SqL.same s2) (SqT.same s2)) ?_ (zip_left xl) (by rw [List.length_zip]; omega) ?_ ?_)
      · rfl
      · rintro j c H3 hc s3 Yes No yes no
        obtain ⟨c1, c2⟩ := List.getElem?_zip_eq_some.mp hc
        obtain ⟨y, b, hy, e2, _, hb⟩ := prs_at hT2 c1
        rw [c2] at hy
        cases hy
        rw [e2]
        refine ⟨b, _, rfl, SqT.same s3 hb, rfl, _, _, rfl, _, _, rfl, rfl, rfl, _, rfl, _, rfl, rfl, _, rfl, ?_⟩
        show (if decide (V.str c.2.1 = V.str k) = true then _ else _)
        rw [eq_str]
        cases hb2 : decide (c.2.1 = k) with
        | true => exact if_true_of rfl ⟨_, rfl, yes hb2 _ (Same.refl _)⟩
        | false => exact if_false_of rfl (no hb2 _ (Same.refl _))
      · intro D2 H3 hD2 s3 hl3
        have hn : (namesOf k ps).length ≤ 60 := by
          unfold namesOf
          rw [List.length_map]
          exact Nat.le_trans (List.length_filter_le _ _) h60
        have el : ((xs.zip ps).filter fun z => decide (z.2.1 = k)).map (fun z => V.str z.2.2) = (namesOf k ps).map V.str := by
          rw [zip_right (fun y : Pr => decide (y.1 = k)) (fun y : Pr => V.str y.2) xl]
          unfold namesOf
          rw [List.map_map]
          rfl
        rw [el] at hl3
        refine ⟨D2, namesOf k ps, rfl, SqL.of hl3, by omega, fun ys p2 so nd me le hp2 => ⟨p2, rfl, ⟨_, SqL.of upd_same⟩, ?_⟩⟩
        have hzp : upd H3 p2 (.lst (ys.map V.str)) D = some (.lst zs) := by rw [upd_ne (ne_of_none (s3 _ _ hz) hp2)]; exact s3 _ _ hz
        have pD : p2 ≠ D := Ne.symm (ne_of_none (s3 _ _ hz) hp2)
        have s4 : Same H1 (upd H3 p2 (.lst (ys.map V.str))) := (s2.trans s3).trans (Same.new hp2 _)
        refine walkL (K := K) (a := p2) (xs := ys.map V.str) (fun j H' => ∃ zs' : List V, Same H1 H' ∧ H' D = some (.lst zs') ∧ H' p2 = some (.lst (ys.map V.str)) ∧ TnAll K H' zs' ((L ++ (ys.take j).map fun n => (k, n)).map pairD)) ?_ (fun j H' ⟨_, _, _, h, _⟩ => SqL.of h) ?_ ?_
        · refine ⟨zs, s4, hzp, upd_same, ?_⟩
          rw [List.take_zero, List.map_nil, List.append_nil]
          exact TnAll.keep (TK.of_same (s3.trans (Same.new hp2 _))) hTz
        · rintro j x H4 hx ⟨zs', s5, hz5, hp5, hT5⟩
          rw [List.getElem?_map] at hx
          obtain ⟨n, hn2, rfl⟩ := Option.map_eq_some_iff.mp hx
          refine ⟨rfl, tYes_of ⟨_, rfl, _, rfl, by show 2 ≤ sizeLine; decide, fun p3 hp3 => ?_⟩⟩
          have zl := TnAll.length hT5
          rw [List.length_map, List.length_append, List.length_map, List.length_take] at zl
          have e3 : upd H4 p3 (.tup [.str k, .str n]) D = some (.lst zs') := by rw [upd_ne (ne_of_none hz5 hp3)]; exact hz5
          have tk3 : TK H4 (upd (upd H4 p3 (.tup [.str k, .str n])) D (.lst (zs' ++ [.ref p3]))) := (TK.of_same (Same.new hp3 _)).trans (TK.upd (by rw [e3]; trivial))
          refine ⟨zs', e3, ?_, zs' ++ [.ref p3], own_same (s5.trans (Same.new hp3 _)) hD, upd_same, ?_, ?_⟩
          · have l1 := sub_len (asc_nodup asc) fun x h => ((mem x).mp h).1
            exact small1000 (by omega)
          · rw [upd_ne pD, upd_ne (ne_of_none hp5 hp3)]; exact hp5
          · have eL : (L ++ (ys.take (j + 1)).map fun n => (k, n)).map pairD = (L ++ (ys.take j).map fun n => (k, n)).map pairD ++ [pairD (k, n)] := by rw [take_more hn2]; simp
            rw [eL]
            refine TnAll.append (TnAll.keep tk3 hT5) (TnAll.one ?_)
            exact Tn.keep (TK.upd (by rw [e3]; trivial)) (Tn.new (ds := [.str k, .str n]) (TnAll.strs [k, n]) hp3)
        · rintro H4 ⟨zs', s5, hz5, hp5, hT5⟩
          rw [List.length_map, List.take_length] at hT5
          refine ⟨zs', _, s5, hz5, hT5, asc_more asc (fun x hx => kidx_lt hk ((mem x).mp hx).2) (sorted_lt so nd), fun x => ?_⟩
          rw [List.mem_append, mem x, take_more hk, List.mem_append, List.mem_singleton, List.mem_map]
          constructor
          · rintro (⟨h1, h2⟩ | ⟨n, h1, rfl⟩)
            · exact ⟨h1, .inl h2⟩
            · exact ⟨namesOf_mem.mp ((me n).mp h1), .inr rfl⟩
          · rintro ⟨h1, h2 | h2⟩
            · exact .inl ⟨h1, h2⟩
            · refine .inr ⟨x.2, (me x.2).mpr (namesOf_mem.mpr (by rw [← h2]; exact h1)), by rw [← h2]⟩
    · rintro H2 ⟨zs, L, s2, hz, hTz, asc, mem⟩
      refine ⟨_, _, rfl, .inl ⟨SqL.of hz, fun t ht => ⟨_, rfl, a, T.c_Verdict, dx, [], rfl, ?_, T.l_Verdict, T.n_Verdict__pairs, by show 0 < 1000; decide, ?_⟩⟩⟩
      · exact Same.new ht _ _ _ (s2 _ _ (s1 _ _ ha))
      · exact q bk L t (upd H2 t (.tup zs)) ⟨asc, fun x => by rw [mem x, List.take_of_length_le (by rw [List.length_map]; exact Nat.le_refl _)]⟩ ((s1.trans s2).trans (Same.new ht _)) ⟨zs, SqT.of upd_same, TnAll.keep (TK.of_same (Same.new ht _)) hTz⟩ (Same.new ht _ _ _ (s2 _ _ (s1 _ _ ha)))
end
end K50
namespace K50
open PySem PySem.Spec PyProof.Rows L2 Td
theorem calm_out {P : Program} {w : World} {K : PySem.W.Frag} {mg : Str → Option Value} {base : Heap} {k : Nat} {f : Addr} {fd : FuncData} {ps : List Str} {s1 s2 : Sp} (G : FnOk P w K mg base (L2.CX P w) k f fd ps s1) (h : ∀ vs H Q E, s2 vs H Q E → s1 vs H Q fun _ _ _ => False) : FnOk P w K mg base CX0 k f fd ps s2 :=
  ⟨fun vs H Q E z => G.len vs H Q _ (h vs H Q E z), fun A outer s H args us vs Q E hr he hb hv hs => codeAny_mono (G.run A outer s H args us vs Q (fun _ _ _ => False) hr he hb hv (h vs H Q E hs)) fun r s' hq => by
    cases r with
    | error e => obtain ⟨a, B, H', cls, d, _, _, _, _, _, _, _, z⟩ := hq; exact z.elim
    | ok fl => cases fl <;> exact hq⟩
structure Vok (L : List Pr) : Prop where
  few : L.length ≤ 30
  sh : ∀ x ∈ L, shP x
  kd : ∀ x ∈ L, x.1 ∈ kindsL
def spVerd0 (K : PySem.W.Frag) (C : Addr) : Sp := fun vs H Q _ => ∃ (a dx p : Addr) (ps : List Pr), vs = [.ref a, .ref p] ∧ H a = some (.ins C dx []) ∧ PrsA K H p ps ∧ ps.length ≤ 60 ∧ (∀ x ∈ ps, shP x) ∧ (∀ x ∈ ps, x.1 ∈ kindsL) ∧
  ∀ (L : List Pr) (t : Addr) (H1 : Hp), IsV ps L → Same H H1 → PrsT K H1 t L → H1 a = some (.ins C dx []) → Q .non (upd H1 a (.ins C dx (verdF t)))
/-- a new verdict of the pairs ps -/
def NewV (K : PySem.W.Frag) (C : Addr) (H : Hp) (ps : List Pr) (Q : VK) : Prop := ∀ (b : Addr) (N : List Pr) (H' : Hp), Same H H' → H b = none → VAt K H' C b N → IsV ps N → Q (.ref b) H'
def spPairs (K : PySem.W.Frag) (C : Addr) : Sp := fun vs H Q _ => ∃ (a : Addr) (L : List Pr), vs = [.ref a] ∧ VAt K H C a L ∧ ∀ (l : Addr) (xs : List V) (H' : Hp), Same H H' → H l = none → H' l = some (.lst xs) → TnAll K H' xs (L.map pairD) → Q (.ref l) H'
def kindsOf (L : List Pr) : List Str := kindsL.filter fun k => decide (k ∈ L.map (·.1))
def spKinds (K : PySem.W.Frag) (C : Addr) : Sp := fun vs H Q _ => ∃ (a : Addr) (L : List Pr), vs = [.ref a] ∧ VAt K H C a L ∧ L.length ≤ 60 ∧ ∀ (l : Addr) (H' : Hp), Same H H' → H l = none → H' l = some (.lst ((kindsOf L).map V.str)) → Q (.ref l) H'
def spOnly (K : PySem.W.Frag) (C : Addr) : Sp := fun vs H Q _ => ∃ (a q : Addr) (L : List Pr) (ks : List Str), vs = [.ref a, .ref q] ∧ VAt K H C a L ∧ Vok L ∧ (SqL K H q (ks.map V.str) ∨ SqT K H q (ks.map V.str)) ∧ NewV K C H (L.filter fun x => decide (x.1 ∈ ks)) Q
def spOr2 (K : PySem.W.Frag) (C : Addr) : Sp := fun vs H Q _ => ∃ (a b : Addr) (L M : List Pr), vs = [.ref a, .ref b] ∧ VAt K H C a L ∧ VAt K H C b M ∧ Vok L ∧ Vok M ∧ NewV K C H (L ++ M) Q
def spAnd2 (K : PySem.W.Frag) (C : Addr) : Sp := fun vs H Q _ => ∃ (a b : Addr) (L M : List Pr), vs = [.ref a, .ref b] ∧ VAt K H C a L ∧ VAt K H C b M ∧ Vok L ∧ Vok M ∧ NewV K C H (L.filter fun x => decide (x ∈ M)) Q
def spSub2 (K : PySem.W.Frag) (C : Addr) : Sp := fun vs H Q _ => ∃ (a b : Addr) (L M : List Pr), vs = [.ref a, .ref b] ∧ VAt K H C a L ∧ VAt K H C b M ∧ Vok L ∧ Vok M ∧ NewV K C H (L.filter fun x => !decide (x ∈ M)) Q
def spEqV (K : PySem.W.Frag) (C : Addr) : Sp := fun vs H Q _ => ∃ (a b : Addr) (L M : List Pr), vs = [.ref a, .ref b] ∧ VAt K H C a L ∧ VAt K H C b M ∧ Vok L ∧ Vok M ∧ ∀ H', Same H H' → Q (.bl (decide (L = M))) H'
def spLenV (K : PySem.W.Frag) (C : Addr) : Sp := fun vs H Q _ => ∃ (a : Addr) (L : List Pr), vs = [.ref a] ∧ VAt K H C a L ∧ ∀ H', Same H H' → Q (.int (L.length : Nat)) H'
def spHas (K : PySem.W.Frag) (C : Addr) : Sp := fun vs H Q _ => ∃ (a : Addr) (v : V) (L : List Pr) (x : Pr), vs = [.ref a, v] ∧ VAt K H C a L ∧ Vok L ∧ Tn K H v (pairD x) ∧ shP x ∧ ∀ H', Same H H' → Q (.bl (decide (x ∈ L))) H'
section
variable {P : Program} {w : World} {K : PySem.W.Frag} {mg : Str → Option Value} {base : Heap}
theorem ok_verd0 {C CI a : Addr} {d : FuncData} (G : FnOk P w K mg base (L2.CX P w) 5 a d ["self", "pairs"] (spVerd K C CI)) : FnOk P w K mg base CX0 5 a d ["self", "pairs"] (spVerd0 K C) :=
  calm_out G fun vs H Q E ⟨a, dx, p, ps, e, h1, h2, h3, h4, h5, q⟩ => ⟨a, dx, p, ps, e, h1, h2, h3, h4, fun _ => q, fun k hk => by rw [badK_of h5] at hk; cases hk⟩
theorem zip_tn {H : Hp} (f : Pr → Bool) : ∀ {xs : List V} {L : List Pr}, TnAll K H xs (L.map pairD) → TnAll K H (((xs.zip L).filter fun z => f z.2).map Prod.fst) ((L.filter f).map pairD)
  | [], [], _ => .nil
  | x :: xs, y :: L, h => by
    cases h with
    | cons a b =>
      have ih := zip_tn f b
      rw [List.zip_cons_cons, List.filter_cons, List.filter_cons]
      cases f y
      · exact ih
      · exact .cons a ih
theorem PrsA.same {H H' : Hp} {p : Addr} {ps : List Pr} (s : Same H H') (h : PrsA K H p ps) : PrsA K H' p ps := h.imp (PrsL.same s) (PrsT.same s)
theorem mk_new {C p : Addr} {H H2 : Hp} {ps : List Pr} {R : Addr → Hp → Prop} (s2 : Same H H2) (hp : PrsA K H2 p ps) (few : ps.length ≤ 60) (sh : ∀ x ∈ ps, shP x) (kd : ∀ x ∈ ps, x.1 ∈ kindsL) (q : ∀ (b : Addr) (N : List Pr) (H' : Hp), Same H H' → H b = none → VAt K H' C b N → IsV ps N → R b H') :
    ∀ x dx, H2 x = none → H2 dx = none → dx ≠ x → spVerd0 K C (.ref x :: ([.ref p] ++ [])) (upd (upd H2 dx (.own x)) x (.ins C dx [])) (fun v H3 => v = .non ∧ R x H3) E0 := fun x dx hx hdx ne => by
  have hx1 : upd H2 dx (.own x) x = none := by rw [upd_ne (Ne.symm ne)]; exact hx
  have s4 : Same H2 (upd (upd H2 dx (.own x)) x (.ins C dx [])) := (Same.new hdx _).trans (Same.new hx1 _)
  have hx0 : H x = none := by
    cases e : H x with
    | none => rfl
    | some o => rw [s2 _ _ e] at hx; cases hx
  refine ⟨x, dx, p, ps, rfl, upd_same, hp.same s4, few, sh, kd, fun L t H3 iv s3 pt h3 => ⟨rfl, q x L _ (own_same ((s2.trans s4).trans s3) hx0) hx0 ⟨dx, t, upd_same, pt.tk (TK.upd (by rw [h3]; trivial))⟩ iv⟩⟩
theorem ok_pairs (T : Tops w K mg) : FnOk P w K mg base CX0 1 T.a_Verdict_pairs T.d_Verdict_pairs ["self"] (spPairs K T.c_Verdict) := by
  refine T.F_Verdict_pairs.ok sc_Verdict_pairs (fun vs H Q E h => ?_) (fun cdv A outer s H vs Q E hr h => ?_)
  · obtain ⟨a, L, rfl, _⟩ := h; rfl
  obtain ⟨a, L, rfl, ⟨dx, t, ha, xs, ht, hT⟩, q⟩ := h
  refine ⟨_, (pss_one (ps_ret (pe_callTy call_list_of rfl T.z_list (by decide +kernel) (pa_cons (pe_fld (pv 0) rfl) pa_nil)))), ?_⟩
  exact ⟨_, rfl, a, _, dx, _, _, rfl, ha, T.l_Verdict, T.n_Verdict__pairs, rfl, t, xs, rfl, .inr ht, fun l hl => q l xs _ (Same.new hl _) hl upd_same (TnAll.keep (TK.of_same (Same.new hl _)) hT)⟩
theorem ok_kinds (T : Tops w K mg) : FnOk P w K mg base CX0 1 T.a_Verdict_kinds T.d_Verdict_kinds ["self"] (spKinds K T.c_Verdict) := by
  refine T.F_Verdict_kinds.ok sc_Verdict_kinds (fun vs H Q E h => ?_) (fun cdv A outer s H vs Q E hr h => ?_)
  · obtain ⟨a, L, rfl, _⟩ := h; rfl
  obtain ⟨a, L, rfl, ⟨dx, t, ha, xs, ht, hT⟩, h60, q⟩ := h
  refine ⟨_, (pss_cons (ps_set (i := 1) sc_Verdict_kinds.nd rfl (Or.inr rfl) (pe_lc (own := [(("kind" : Str), 2), (("_" : Str), 3)]) (wi := (iTup K (tFld K (tVar 0) "_pairs"))) (g := gTup K 2 (gCons (gName 2) (gCons (gName 3) gNil))) (tt := tYes) (te := (tVar 2)) rfl sc_Verdict_kinds.nd (pi_tup (pe_fld (pv 0) rfl)) (blkOk_by (own := [(("kind" : Str), 2), (("_" : Str), 3)]) (N := N_Verdict_kinds) (sc := defScope s_Verdict_kinds) (by decide +kernel)) (fun _ _ _ _ _ => (pg_tup rfl (pgs_cons (pg_name (i := 2) sc_Verdict_kinds.nd rfl (Or.inl rfl)) (pgs_cons (pg_name (i := 3) sc_Verdict_kinds.nd rfl (Or.inl rfl)) pgs_nil)))) (fun _ _ _ _ _ => pts_nil) (fun _ _ _ _ _ => (pv 2))))
    (pss_one (ps_ret (pe_lc (own := [(("kind" : Str), 2)]) (wi := (iTup K (tC (.ref T.a_KINDS)))) (g := gName 2) (tt := (tTest (tOp (rIn K false) (tVar 2) (tVar 1)))) (te := (tVar 2)) rfl sc_Verdict_kinds.nd (pi_tup (pe_glob (v := .ref T.a_KINDS) rfl T.c_KINDS rfl)) (blkOk_by (own := [(("kind" : Str), 2)]) (N := N_Verdict_kinds) (sc := defScope s_Verdict_kinds) (by decide +kernel)) (fun _ _ _ _ _ => (pg_name (i := 2) sc_Verdict_kinds.nd rfl (Or.inl rfl))) (fun _ _ _ _ _ => (pts_one (pt_cmpR op_in_seq (pv 2) (pv 1) (by rfl)))) (fun _ _ _ _ _ => (pv 2)))))), ?_⟩
  have xl := prs_len hT
  refine ⟨_, rfl, a, _, dx, _, _, rfl, ha, T.l_Verdict, T.n_Verdict__pairs, rfl, t, rfl, ⟨_, ht⟩, fun D hD => fiS_tup (xs.zip L) Prod.fst (fun _ => true) (fun z => .str z.2.1) ht (zip_left xl) (by rw [List.length_zip]; omega) hD ?_ ?_⟩
  · rintro i c H1 hc s1 Yes No yes no
    obtain ⟨c1, c2⟩ := List.getElem?_zip_eq_some.mp hc
    obtain ⟨y, b2, hy, e2, hty, hb2⟩ := prs_at hT c1
    rw [c2] at hy
    cases hy
    rw [e2]
    exact ⟨b2, _, rfl, SqT.same s1 hb2, rfl, _, _, rfl, _, _, rfl, rfl, rfl, tYes_of ⟨_, rfl, yes rfl _ (Same.refl _)⟩⟩
  · intro H1 s1 hl
    have el : ((xs.zip L).filter fun _ => true).map (fun z => V.str z.2.1) = (L.map (·.1)).map V.str := by
      rw [zip_right (fun _ : Pr => true) (fun y : Pr => V.str y.1) xl, Td.filter_all, List.map_map]
      rfl
    rw [el] at hl
    refine ⟨T.a_KINDS, rfl, ⟨_, T.w_KINDS _⟩, fun D2 hD2 => fiS_tup kindsL V.str (fun k => decide (k ∈ L.map (·.1))) V.str (T.w_KINDS _) rfl (by decide) hD2 ?_ ?_⟩
    · rintro i k H2 hk s2 Yes No yes no
      refine ⟨rfl, _, rfl, _, rfl, D, (L.map (·.1)).map V.str, rfl, .inl (SqL.of (s2 _ _ hl)), rfl, Td.flat_strs _, _, rfl, ?_⟩
      show (if inV (.str k) ((L.map (·.1)).map V.str) = true then _ else _)
      rw [inV_strs]
      cases h : decide (k ∈ L.map (·.1)) with
      | true => exact if_true_of rfl ⟨_, rfl, yes h _ (Same.refl _)⟩
      | false => exact if_false_of rfl (no h _ (Same.refl _))
    · intro H2 s2 hl2
      have h0 : H D2 = none := by
        cases e : H D2 with
        | none => rfl
        | some o => rw [s1 _ _ e] at hD2; cases hD2
      exact q D2 H2 (s1.trans s2) h0 hl2
theorem ok_only (T : Tops w K mg) (G_Verdict_init : FnOk P w K mg base CX0 5 T.a_Verdict_init T.d_Verdict_init ["self", "pairs"] (spVerd0 K T.c_Verdict)) : FnOk P w K mg base CX0 7 T.a_Verdict_only T.d_Verdict_only ["self", "kinds"] (spOnly K T.c_Verdict) := by
  refine T.F_Verdict_only.ok sc_Verdict_only (fun vs H Q E h => ?_) (fun cdv A outer s H vs Q E hr h => ?_)
  · obtain ⟨a, p, L, ks, rfl, _⟩ := h; rfl
  obtain ⟨a, p, L, ks, rfl, ⟨dx, t, ha, xs, ht, hT⟩, vo, hp, q⟩ := h
  refine ⟨_, (pss_one (ps_ret (pe_make T.k_Verdict G_Verdict_init (hr.mono (by omega)) rfl T.m_Verdict T.b_Verdict_init .nil pass0 (pa_cons (pe_lc (own := [(("pair" : Str), 2)]) (wi := (iTup K (tFld K (tVar 0) "_pairs"))) (g := gName 2) (tt := (tTest (tOp (rIn K false) (tOp (rIxT K) (tVar 2) (tC (.int 0))) (tVar 1)))) (te := (tVar 2)) rfl sc_Verdict_only.nd (pi_tup (pe_fld (pv 0) rfl)) (blkOk_by (own := [(("pair" : Str), 2)]) (N := N_Verdict_only) (sc := defScope s_Verdict_only) (by decide +kernel)) (fun _ _ _ _ _ => (pg_name (i := 2) sc_Verdict_only.nd rfl (Or.inl rfl))) (fun _ _ _ _ _ => (pts_one (pt_cmpR op_in_seq (pe_ix (r := (rIxT K)) ix_tup (pv 2) pe_int (fun _ _ => rfl)) (pv 1) (by rfl)))) (fun _ _ _ _ _ => (pv 2))) pa_nil)))), ?_⟩
  have xl := prs_len hT
  refine ⟨_, rfl, a, _, dx, _, _, rfl, ha, T.l_Verdict, T.n_Verdict__pairs, rfl, t, rfl, ⟨_, ht⟩, fun D hD => fiS_tup (xs.zip L) Prod.fst (fun z => decide (z.2.1 ∈ ks)) Prod.fst ht (zip_left xl) (by rw [List.length_zip]; have := vo.few; omega) hD ?_ ?_⟩
  · rintro i c H1 hc s1 Yes No yes no
    obtain ⟨c1, c2⟩ := List.getElem?_zip_eq_some.mp hc
    obtain ⟨y, b2, hy, e2, hty, hb2⟩ := prs_at hT c1
    rw [c2] at hy
    cases hy
    refine ⟨rfl, _, rfl, ?_⟩
    rw [e2]
    refine ⟨b2, _, 0, _, rfl, rfl, SqT.same s1 hb2, rfl, _, rfl, p, ks.map V.str, rfl, hp.imp (SqL.same s1) (SqT.same s1), rfl, Td.flat_strs _, _, rfl, ?_⟩
    show (if inV (.str c.2.1) (ks.map V.str) = true then _ else _)
    rw [inV_strs]
    cases h : decide (c.2.1 ∈ ks) with
    | true => exact if_true_of rfl ⟨_, rfl, by rw [← e2]; exact yes h _ (Same.refl _)⟩
    | false => exact if_false_of rfl (no h _ (Same.refl _))
  · intro H1 s1 hl
    refine mk_new s1 (.inl ⟨_, SqL.of hl, TnAll.keep (TK.of_same s1) (zip_tn (fun y => decide (y.1 ∈ ks)) hT)⟩) (Nat.le_trans (List.length_filter_le _ _) (by have := vo.few; omega)) (fun x hx => vo.sh x (List.mem_filter.mp hx).1) (fun x hx => vo.kd x (List.mem_filter.mp hx).1) q
theorem ok_or2 (T : Tops w K mg) (G_Verdict_init : FnOk P w K mg base CX0 5 T.a_Verdict_init T.d_Verdict_init ["self", "pairs"] (spVerd0 K T.c_Verdict)) : FnOk P w K mg base CX0 7 T.a_Verdict_or T.d_Verdict_or ["self", "other"] (spOr2 K T.c_Verdict) := by
  refine T.F_Verdict_or.ok sc_Verdict_or (fun vs H Q E h => ?_) (fun cdv A outer s H vs Q E hr h => ?_)
  · obtain ⟨a, b, L, M, rfl, _⟩ := h; rfl
  obtain ⟨a, b, L, M, rfl, ⟨dx, t, ha, xs, ht, hT⟩, ⟨dy, u, hb, ys, hu, hU⟩, vo, vp, q⟩ := h
  refine ⟨_, (pss_one (ps_ret (pe_make T.k_Verdict G_Verdict_init (hr.mono (by omega)) rfl T.m_Verdict T.b_Verdict_init .nil pass0 (pa_cons (pe_op op_catA (pe_fld (pv 0) rfl) (pe_fld (pv 1) rfl)) pa_nil)))), ?_⟩
  have xl := prs_len hT
  have yl := prs_len hU
  have l1 := vo.few
  have l2 := vp.few
  refine ⟨_, rfl, a, _, dx, _, _, rfl, ha, T.l_Verdict, T.n_Verdict__pairs, rfl, _, rfl, b, _, dy, _, _, rfl, hb, T.l_Verdict, T.n_Verdict__pairs, rfl, t, u, xs, ys, rfl, rfl, ht, hu, (Nat.le_of_lt (small1000 (by omega))), fun e => ?_, fun _ e => ?_, fun _ _ p hp => ?_⟩
  · subst e
    obtain rfl : L = [] := List.length_eq_zero_iff.mp xl.symm
    exact mk_new (Same.refl _) (.inr ⟨ys, hu, hU⟩) (by omega) vp.sh vp.kd q
  · subst e
    obtain rfl : M = [] := List.length_eq_zero_iff.mp yl.symm
    rw [List.append_nil] at q
    exact mk_new (Same.refl _) (.inr ⟨xs, ht, hT⟩) (by omega) vo.sh vo.kd q
  · refine mk_new (Same.new hp _) (.inr ⟨_, SqT.of upd_same, ?_⟩) (by rw [List.length_append]; omega) (fun x hx => (List.mem_append.mp hx).elim (vo.sh x) (vp.sh x)) (fun x hx => (List.mem_append.mp hx).elim (vo.kd x) (vp.kd x)) q
    rw [List.map_append]
    exact TnAll.append (TnAll.keep (TK.of_same (Same.new hp _)) hT) (TnAll.keep (TK.of_same (Same.new hp _)) hU)
theorem ok_and2 (T : Tops w K mg) (G_Verdict_init : FnOk P w K mg base CX0 5 T.a_Verdict_init T.d_Verdict_init ["self", "pairs"] (spVerd0 K T.c_Verdict)) : FnOk P w K mg base CX0 7 T.a_Verdict_and T.d_Verdict_and ["self", "other"] (spAnd2 K T.c_Verdict) := by
  refine T.F_Verdict_and.ok sc_Verdict_and (fun vs H Q E h => ?_) (fun cdv A outer s H vs Q E hr h => ?_)
  · obtain ⟨a, b, L, M, rfl, _⟩ := h; rfl
  obtain ⟨a, b, L, M, rfl, ⟨dx, t, ha, xs, ht, hT⟩, ⟨dy, u, hb, ys, hu, hU⟩, vo, vp, q⟩ := h
  refine ⟨_, (pss_one (ps_ret (pe_make T.k_Verdict G_Verdict_init (hr.mono (by omega)) rfl T.m_Verdict T.b_Verdict_init .nil pass0 (pa_cons (pe_lc (own := [(("pair" : Str), 2)]) (wi := (iTup K (tFld K (tVar 0) "_pairs"))) (g := gName 2) (tt := (tTest (tOp (rInDT K false) (tVar 2) (tFld K (tVar 1) "_pairs")))) (te := (tVar 2)) rfl sc_Verdict_and.nd (pi_tup (pe_fld (pv 0) rfl)) (blkOk_by (own := [(("pair" : Str), 2)]) (N := N_Verdict_and) (sc := defScope s_Verdict_and) (by decide +kernel)) (fun _ _ _ _ _ => (pg_name (i := 2) sc_Verdict_and.nd rfl (Or.inl rfl))) (fun _ _ _ _ _ => (pts_one (pt_cmpR (op_inDT (units65 hr)) (pv 2) (pe_fld (pv 1) rfl) (by rfl)))) (fun _ _ _ _ _ => (pv 2))) pa_nil)))), ?_⟩
  have xl := prs_len hT
  refine ⟨_, rfl, a, _, dx, _, _, rfl, ha, T.l_Verdict, T.n_Verdict__pairs, rfl, t, rfl, ⟨_, ht⟩, fun D hD => fiS_tup (xs.zip L) Prod.fst (fun z => decide (z.2 ∈ M)) Prod.fst ht (zip_left xl) (by rw [List.length_zip]; have := vo.few; omega) hD ?_ ?_⟩
  · rintro i c H1 hc s1 Yes No yes no
    obtain ⟨c1, c2⟩ := List.getElem?_zip_eq_some.mp hc
    obtain ⟨y, b2, hy, e2, hty, hb2⟩ := prs_at hT c1
    rw [c2] at hy
    cases hy
    have la := pair_lay (vo.sh c.2 (List.mem_of_getElem? c2))
    refine ⟨rfl, _, rfl, _, rfl, b, _, dy, _, _, rfl, s1 _ _ hb, T.l_Verdict, T.n_Verdict__pairs, rfl, pairD c.2, M.map pairD, (Tn.keep (TK.of_same s1) hty).dp, .tup (SqT.same s1 hu) (TnAll.keep (TK.of_same s1) hU).dp, shape_of la.1 (by have := la.2; omega), (pairs_lay vp.sh).1, _, rfl, ?_⟩
    show (if (((M.map pairD).any fun z => PyData.eqv z (pairD c.2))) = true then _ else _)
    rw [pairs_any]
    cases h : decide (c.2 ∈ M) with
    | true => exact if_true_of rfl ⟨_, rfl, yes h _ (Same.refl _)⟩
    | false => exact if_false_of rfl (no h _ (Same.refl _))
  · intro H1 s1 hl
    refine mk_new s1 (.inl ⟨_, SqL.of hl, TnAll.keep (TK.of_same s1) (zip_tn (fun y => decide (y ∈ M)) hT)⟩) (Nat.le_trans (List.length_filter_le _ _) (by have := vo.few; omega)) (fun x hx => vo.sh x (List.mem_filter.mp hx).1) (fun x hx => vo.kd x (List.mem_filter.mp hx).1) q
theorem ok_sub2 (T : Tops w K mg) (G_Verdict_init : FnOk P w K mg base CX0 5 T.a_Verdict_init T.d_Verdict_init ["self", "pairs"] (spVerd0 K T.c_Verdict)) : FnOk P w K mg base CX0 7 T.a_Verdict_sub T.d_Verdict_sub ["self", "other"] (spSub2 K T.c_Verdict) := by
  refine T.F_Verdict_sub.ok sc_Verdict_sub (fun vs H Q E h => ?_) (fun cdv A outer s H vs Q E hr h => ?_)
  · obtain ⟨a, b, L, M, rfl, _⟩ := h; rfl
  obtain ⟨a, b, L, M, rfl, ⟨dx, t, ha, xs, ht, hT⟩, ⟨dy, u, hb, ys, hu, hU⟩, vo, vp, q⟩ := h
  refine ⟨_, (pss_one (ps_ret (pe_make T.k_Verdict G_Verdict_init (hr.mono (by omega)) rfl T.m_Verdict T.b_Verdict_init .nil pass0 (pa_cons (pe_lc (own := [(("pair" : Str), 2)]) (wi := (iTup K (tFld K (tVar 0) "_pairs"))) (g := gName 2) (tt := (tTest (tOp (rInDT K true) (tVar 2) (tFld K (tVar 1) "_pairs")))) (te := (tVar 2)) rfl sc_Verdict_sub.nd (pi_tup (pe_fld (pv 0) rfl)) (blkOk_by (own := [(("pair" : Str), 2)]) (N := N_Verdict_sub) (sc := defScope s_Verdict_sub) (by decide +kernel)) (fun _ _ _ _ _ => (pg_name (i := 2) sc_Verdict_sub.nd rfl (Or.inl rfl))) (fun _ _ _ _ _ => (pts_one (pt_cmpR (op_ninDT (units65 hr)) (pv 2) (pe_fld (pv 1) rfl) (by rfl)))) (fun _ _ _ _ _ => (pv 2))) pa_nil)))), ?_⟩
  have xl := prs_len hT
  refine ⟨_, rfl, a, _, dx, _, _, rfl, ha, T.l_Verdict, T.n_Verdict__pairs, rfl, t, rfl, ⟨_, ht⟩, fun D hD => fiS_tup (xs.zip L) Prod.fst (fun z => !decide (z.2 ∈ M)) Prod.fst ht (zip_left xl) (by rw [List.length_zip]; have := vo.few; omega) hD ?_ ?_⟩
  · rintro i c H1 hc s1 Yes No yes no
    obtain ⟨c1, c2⟩ := List.getElem?_zip_eq_some.mp hc
    obtain ⟨y, b2, hy, e2, hty, hb2⟩ := prs_at hT c1
    rw [c2] at hy
    cases hy
    have la := pair_lay (vo.sh c.2 (List.mem_of_getElem? c2))
    refine ⟨rfl, _, rfl, _, rfl, b, _, dy, _, _, rfl, s1 _ _ hb, T.l_Verdict, T.n_Verdict__pairs, rfl, pairD c.2, M.map pairD, (Tn.keep (TK.of_same s1) hty).dp, .tup (SqT.same s1 hu) (TnAll.keep (TK.of_same s1) hU).dp, shape_of la.1 (by have := la.2; omega), (pairs_lay vp.sh).1, _, rfl, ?_⟩
    show (if (!((M.map pairD).any fun z => PyData.eqv z (pairD c.2))) = true then _ else _)
    rw [pairs_any]
    cases h : !decide (c.2 ∈ M) with
    | true => exact if_true_of rfl ⟨_, rfl, yes h _ (Same.refl _)⟩
    | false => exact if_false_of rfl (no h _ (Same.refl _))
  · intro H1 s1 hl
    refine mk_new s1 (.inl ⟨_, SqL.of hl, TnAll.keep (TK.of_same s1) (zip_tn (fun y => !decide (y ∈ M)) hT)⟩) (Nat.le_trans (List.length_filter_le _ _) (by have := vo.few; omega)) (fun x hx => vo.sh x (List.mem_filter.mp hx).1) (fun x hx => vo.kd x (List.mem_filter.mp hx).1) q
theorem ok_eqV (T : Tops w K mg) : FnOk P w K mg base CX0 1 T.a_Verdict_eq T.d_Verdict_eq ["self", "other"] (spEqV K T.c_Verdict) := by
  refine T.F_Verdict_eq.ok sc_Verdict_eq (fun vs H Q E h => ?_) (fun cdv A outer s H vs Q E hr h => ?_)
  · obtain ⟨a, b, L, M, rfl, _⟩ := h; rfl
  obtain ⟨a, b, L, M, rfl, ⟨dx, t, ha, xs, ht, hT⟩, ⟨dy, u, hb, ys, hu, hU⟩, vo, vp, q⟩ := h
  refine ⟨_, (pss_one (ps_ret (pe_and (pe_callB (C8.call_isC T.i_Verdict) rfl T.z_isinstance (by decide +kernel) (pa_cons (pv 1) (pa_cons (pe_glob (v := .ref T.c_Verdict) rfl T.m_Verdict rfl) pa_nil))) (pe_one (pe_cmpR (op_eqD hr.units) (pe_fld (pv 0) rfl) (pe_fld (pv 1) rfl) (nomark _)))))), ?_⟩
  refine ⟨_, rfl, b, dy, _, rfl, hb, true, rfl, iteT ?_⟩
  refine ⟨_, rfl, a, _, dx, _, _, rfl, ha, T.l_Verdict, T.n_Verdict__pairs, rfl, _, rfl, b, _, dy, _, _, rfl, hb, T.l_Verdict, T.n_Verdict__pairs, rfl, .tuple (L.map pairD), .tuple (M.map pairD), .tup ht hT.dp, .tup hu hU.dp, (pairs_lay vo.sh).1, (pairs_lay vp.sh).1, ?_⟩
  show Q (.bl (PyData.eqvAll (L.map pairD) (M.map pairD))) H
  rw [pairs_eqv]
  exact q H (Same.refl _)
theorem ok_lenV (T : Tops w K mg) : FnOk P w K mg base CX0 1 T.a_Verdict_len T.d_Verdict_len ["self"] (spLenV K T.c_Verdict) := by
  refine T.F_Verdict_len.ok sc_Verdict_len (fun vs H Q E h => ?_) (fun cdv A outer s H vs Q E hr h => ?_)
  · obtain ⟨a, L, rfl, _⟩ := h; rfl
  obtain ⟨a, L, rfl, ⟨dx, t, ha, xs, ht, hT⟩, q⟩ := h
  refine ⟨_, (pss_one (ps_ret (pe_callB call_len rfl T.z_len PySem.boot_len (pa_cons (pe_fld (pv 0) rfl) pa_nil)))), ?_⟩
  refine ⟨_, rfl, a, _, dx, _, _, rfl, ha, T.l_Verdict, T.n_Verdict__pairs, rfl, _, xs.length, rfl, .inr ⟨xs, ht, rfl⟩, ?_⟩
  rw [prs_len hT]
  exact q H (Same.refl _)
theorem ok_has (T : Tops w K mg) : FnOk P w K mg base CX0 1 T.a_Verdict_contains T.d_Verdict_contains ["self", "x"] (spHas K T.c_Verdict) := by
  refine T.F_Verdict_contains.ok sc_Verdict_contains (fun vs H Q E h => ?_) (fun cdv A outer s H vs Q E hr h => ?_)
  · obtain ⟨a, v, L, x, rfl, _⟩ := h; rfl
  obtain ⟨a, v, L, x, rfl, ⟨dx, t, ha, xs, ht, hT⟩, vo, hv, hx, q⟩ := h
  refine ⟨_, (pss_one (ps_ret (pe_cmpR (op_inDT (units65 hr)) (pv 1) (pe_fld (pv 0) rfl) (by rfl)))), ?_⟩
  have la := pair_lay hx
  refine ⟨_, rfl, _, rfl, a, _, dx, _, _, rfl, ha, T.l_Verdict, T.n_Verdict__pairs, rfl, pairD x, L.map pairD, hv.dp, .tup ht hT.dp, shape_of la.1 (by have := la.2; omega), (pairs_lay vo.sh).1, ?_⟩
  show Q (.bl ((L.map pairD).any fun z => PyData.eqv z (pairD x))) H
  rw [pairs_any]
  exact q H (Same.refl _)
end
end K50
namespace K50
open PySem PySem.Spec PyProof.Rows L2 Td
def spKindsL : Sp := fun vs H Q _ => vs = [] ∧ ∀ (l : Addr) (H' : Hp), Same H H' → H l = none → H' l = some (.lst (kindsL.map V.str)) → Q (.ref l) H'
def spPairsL (K : PySem.W.Frag) : Sp := fun vs H Q _ => ∃ (st sc nm : Addr) (m : Nat) (ns : List Str), vs = [.ref st, .ref nm, .int (m : Nat)] ∧ m ≤ 20 ∧ StOk H st sc ∧ H nm = some (.lst (ns.map V.str)) ∧ nm ≠ st ∧ ns ≠ [] ∧ ns.length ≤ 20 ∧
  ∀ (l : Addr) (xs : List V) (ps : List Pr) (H' : Hp), Keep st H H' → StOk H' st sc → H l = none → l ≠ st → l ≠ sc → H' l = some (.lst xs) → TnAll K H' xs (ps.map pairD) → ps.length ≤ m → (∀ x ∈ ps, x.1 ∈ kindsL ∧ x.2 ∈ ns) → Q (.ref l) H'
def spOrdered (K : PySem.W.Frag) : Sp := fun vs H Q _ => ∃ (kl pl : Addr) (ps : List Pr), vs = [.ref kl, .ref pl] ∧ H kl = some (.lst (kindsL.map V.str)) ∧ PrsL K H pl ps ∧ ps.length ≤ 30 ∧ (∀ x ∈ ps, shP x) ∧
  ∀ (l : Addr) (xs : List V) (L : List Pr) (H' : Hp), Same H H' → H l = none → H' l = some (.lst xs) → TnAll K H' xs (L.map pairD) → IsV ps L → Q (.ref l) H'
def spRefused (K : PySem.W.Frag) : Sp := fun vs H Q _ => ∃ (pl : Addr) (ps : List Pr), vs = [.ref pl] ∧ PrsL K H pl ps ∧ ps.length ≤ 60 ∧ (∀ x ∈ ps, shP x) ∧ ∀ H', Same H H' → Q (match badK ps with | none => V.non | some k => .str k) H'
def spIs (K : PySem.W.Frag) (C : Addr) : Sp := fun vs H Q _ => ∃ (a d : Addr) (L : List Pr), vs = [.ref a, .ref d] ∧ VAt K H C a L ∧ PrsL K H d L ∧ Vok L ∧ L.Pairwise ltP ∧ ∀ H', Same H H' → Q (.bl true) H'
section
variable {P : Program} {w : World} {K : PySem.W.Frag} {mg : Str → Option Value} {base : Heap}
theorem keep_same {st : Addr} {H H' : Hp} (s : Same H H') : Keep st H H' := fun b o _ e => s b o e
theorem keep_own {st p : Addr} {H H' : Hp} {o : HO} (k : Keep st H H') (h0 : H p = none) : Keep st H (upd H' p o) := fun b o' n e => by rw [upd_ne (ne_of_none e h0)]; exact k b o' n e
theorem tn_rev {K : PySem.W.Frag} {H : Hp} : ∀ {xs : List V} {ds : List PyData}, TnAll K H xs ds → TnAll K H xs.reverse ds.reverse
  | [], [], _ => .nil
  | x :: xs, d :: ds, h => by
    cases h with
    | cons a b =>
      rw [List.reverse_cons, List.reverse_cons]
      exact TnAll.append (tn_rev b) (TnAll.one a)
theorem pick_at {L : List Str} {r : Int} (h0 : 0 ≤ r) (h1 : r < ((L.length : Nat) : Int)) : ∃ (j : Nat) (z : Str), L[j]? = some z ∧ r = (j : Nat) ∧ atI (L.map V.str) r = some (.str z) := by
  obtain ⟨k, rfl⟩ : ∃ k : Nat, r = (k : Nat) := ⟨r.toNat, by omega⟩
  have hj : k < L.length := by omega
  refine ⟨k, L[k], List.getElem?_eq_getElem hj, rfl, atI_nat ?_⟩
  rw [List.getElem?_map, List.getElem?_eq_getElem hj]
  rfl
theorem StOk.chg {H : Hp} {st sc : Addr} (h : StOk H st sc) : Chg (H st) := by
  obtain ⟨L, e⟩ := h.at
  rw [e]; trivial
theorem ok_law_kinds (T : Tops w K mg) : FnOk P w K mg base CX0 1 T.a__law_kinds T.d__law_kinds [] spKindsL := by
  refine T.F__law_kinds.ok sc_law_kinds (fun vs H Q E h => ?_) (fun cdv A outer s H vs Q E hr h => ?_)
  · obtain ⟨rfl, _⟩ := h; rfl
  obtain ⟨rfl, q⟩ := h
  refine ⟨_, (pss_one (ps_ret (pe_lst (pa_cons pe_str (pa_cons pe_str (pa_cons pe_str (pa_cons pe_str (pa_cons pe_str (pa_cons pe_str pa_nil))))))))), ?_⟩
  exact ⟨by show 6 ≤ sizeLine; decide, fun p hp => q p _ (Same.new hp _) hp upd_same⟩
theorem ok_law_pairs (T : Tops w K mg) (G__law_draw : FnOk P w K mg base CX0 1 T.a__law_draw T.d__law_draw ["_law_state_here", "_law_many"] spDraw) (G__law_kinds : FnOk P w K mg base CX0 1 T.a__law_kinds T.d__law_kinds [] spKindsL) :
    FnOk P w K mg base CX0 2 T.a__law_pairs T.d__law_pairs ["_law_state_here", "_law_names_here", "_law_most_pairs"] (spPairsL K) := by
  refine T.F__law_pairs.ok sc_law_pairs (fun vs H Q E h => ?_) (fun cdv A outer s H vs Q E hr h => ?_)
  · obtain ⟨st, sc, nm, m, ns, rfl, _⟩ := h; rfl
  obtain ⟨st, sc, nm, m, ns, rfl, m20, ho, hn, nst, ne, n20, q⟩ := h
  refine ⟨_, (pss_cons (ps_set (i := 3) sc_law_pairs.nd rfl (Or.inl rfl) (pe_call0 G__law_kinds (hr.mono (by omega)) rfl T.m__law_kinds T.F__law_kinds.kp T.b__law_kinds .nil pass0))
    (pss_cons (ps_set (i := 4) sc_law_pairs.nd rfl (Or.inl rfl) (pe_lst pa_nil))
    (pss_cons (ps_for PassesOwn.never rfl (pi_range1 rfl T.z_range (pa_cons (pe_call G__law_draw (hr.mono (by omega)) rfl T.m__law_draw T.F__law_draw.kp T.b__law_draw .nil pass0 (pa_cons (pv 0) (pa_cons (pe_op op_add (pv 2) pe_int) pa_nil))) pa_nil)) (pg_name (i := 5) sc_law_pairs.nd rfl (Or.inl rfl)) (pss_one (ps_expr (pe_bm PySem.F.plainAttrs_list PySem.F.slot_list_append PySem.F.type_list_append mt_append (pv 4) (pa_cons (pe_tup (pa_cons (pe_ix ix_list (pv 3) (pe_call G__law_draw (hr.mono (by omega)) rfl T.m__law_draw T.F__law_draw.kp T.b__law_draw .nil pass0 (pa_cons (pv 0) (pa_cons pe_int pa_nil))) (fun _ _ => rfl)) (pa_cons (pe_ix ix_list (pv 1) (pe_call G__law_draw (hr.mono (by omega)) rfl T.m__law_draw T.F__law_draw.kp T.b__law_draw .nil pass0 (pa_cons (pv 0) (pa_cons (pe_callB call_len rfl T.z_len PySem.boot_len (pa_cons (pv 1) pa_nil)) pa_nil))) (fun _ _ => rfl)) pa_nil))) pa_nil)))))
    (pss_one (ps_ret (pv 4)))))), ?_⟩
  refine ⟨rfl, fun kl H1 s1 hkl0 hkl => ?_⟩
  have o1 : StOk H1 st sc := by
    obtain ⟨cs, i, d, c, z, a1, a2, r⟩ := ho
    exact ⟨cs, i, d, c, z, s1 _ _ a1, s1 _ _ a2, r⟩
  refine ⟨Nat.zero_le _, fun pl hpl => ?_⟩
  obtain ⟨pst, psc⟩ := o1.ne hpl
  have o2 := o1.new (o := .lst []) hpl
  have kst : kl ≠ st := (ho.ne hkl0).1
  have hn1 := s1 _ _ hn
  have hpl0 : H pl = none := by
    cases e : H pl with
    | none => rfl
    | some o => rw [s1 _ _ e] at hpl; cases hpl
  have knp : kl ≠ pl := ne_of_none hkl hpl
  have nnp : nm ≠ pl := ne_of_none hn1 hpl
  refine ⟨_, rfl, _, rfl, _, _, rfl, rfl, st, sc, (m : Int) + 1, rfl, by omega, by omega, o2, fun r H2 r0 r1 k2 o3 _ => ?_⟩
  refine ⟨r, rfl, by omega, by omega, for_range (lo := 0) (n := r.toNat) (fun i σ H' => ∃ (v5 : Option V) (xs : List V) (ps : List Pr), σ = [some (.ref st), some (.ref nm), some (.int (m : Nat)), some (.ref kl), some (.ref pl), v5] ∧
    Keep st H H' ∧ StOk H' st sc ∧ H' kl = some (.lst (kindsL.map V.str)) ∧ H' nm = some (.lst (ns.map V.str)) ∧ H' pl = some (.lst xs) ∧ TnAll K H' xs (ps.map pairD) ∧ ps.length = i ∧ ∀ x ∈ ps, x.1 ∈ kindsL ∧ x.2 ∈ ns) ?_ ?_ ?_⟩
  · exact ⟨none, [], [], rfl, ((keep_same s1).trans (Keep.new hpl)).trans k2, o3, k2 _ _ kst (by rw [upd_ne knp]; exact hkl), k2 _ _ nst (by rw [upd_ne nnp]; exact hn1), k2 _ _ pst upd_same, .nil, rfl, fun x hx => by simp at hx⟩
  · rintro i σ H' hi ⟨v5, xs, ps, rfl, kH, sH, hkl', hnm', hpl', hT', hlen, hall⟩
    refine ⟨_, rfl, .inl ⟨rfl, _, SqL.of hpl'⟩, _, rfl, _, rfl, st, sc, 6, rfl, by decide, by decide, sH, fun j Ha j0 j1 ka sa _ => ?_⟩
    obtain ⟨j', k, hk, rfl, hat⟩ := pick_at (L := kindsL) j0 j1
    refine ⟨kl, _, _, _, rfl, rfl, SqL.of (ka _ _ kst hkl'), hat, _, rfl, _, rfl, _, rfl, .ref nm, _, rfl, .inl ⟨_, SqL.of (ka _ _ nst hnm'), rfl⟩, st, sc, _, rfl, ?_, ?_, sa, fun t Hb t0 t1 kb sb _ => ?_⟩
    · have := List.length_pos_iff.mpr ne
      rw [List.length_map]; omega
    · rw [List.length_map]; omega
    rw [List.length_map] at t1
    obtain ⟨t', z, hz, rfl, hat2⟩ := pick_at t0 t1
    have kab := ka.trans kb
    refine ⟨nm, _, _, _, rfl, rfl, SqL.of (kab _ _ nst hnm'), hat2, by show 2 ≤ sizeLine; decide, fun p3 hp3 => ⟨pl, xs, .ref p3, rfl, rfl, by rw [upd_ne (ne_of_none (kab _ _ pst hpl') hp3)]; exact kab _ _ pst hpl', small1000 (by have := prs_len hT'; omega), ?_⟩⟩
    have hpb := kab _ _ pst hpl'
    have e3 : upd Hb p3 (.tup [.str k, .str z]) pl = some (.lst xs) := by rw [upd_ne (ne_of_none hpb hp3)]; exact hpb
    have tkb : TK H' Hb := TK.of_keep kab sH.chg
    have tk3 : TK Hb (upd (upd Hb p3 (.tup [.str k, .str z])) pl (.lst (xs ++ [.ref p3]))) := (TK.of_same (Same.new hp3 _)).trans (TK.upd (by rw [e3]; trivial))
    refine ⟨some (.int (0 + (i : Nat))), xs ++ [.ref p3], ps ++ [(k, z)], rfl, keep_own ((kH.trans kab).trans (Keep.new hp3)) hpl0, (sb.new hp3).other pst psc, ?_, ?_, upd_same, ?_, by rw [List.length_append, hlen]; rfl, fun x hx => ?_⟩
    · rw [upd_ne knp, upd_ne (ne_of_none (kab _ _ kst hkl') hp3)]; exact kab _ _ kst hkl'
    · rw [upd_ne nnp, upd_ne (ne_of_none (kab _ _ nst hnm') hp3)]; exact kab _ _ nst hnm'
    · rw [List.map_append]
      exact TnAll.append (TnAll.keep (tkb.trans tk3) hT') (TnAll.one (Tn.keep (TK.upd (by rw [e3]; trivial)) (Tn.new (ds := [.str k, .str z]) (TnAll.strs [k, z]) hp3)))
    · rcases List.mem_append.mp hx with hx | hx
      · exact hall x hx
      · rw [List.mem_singleton.mp hx]; exact ⟨List.mem_of_getElem? hk, List.mem_of_getElem? hz⟩
  · rintro σ H' ⟨v5, xs, ps, rfl, kH, sH, hkl', hnm', hpl', hT', hlen, hall⟩
    exact ⟨_, rfl, q pl xs ps H' kH sH hpl0 pst psc hpl' hT' (by omega) hall⟩
theorem ok_law_ordered (T : Tops w K mg) : FnOk P w K mg base CX0 1 T.a__law_ordered T.d__law_ordered ["_law_kinds_here", "_law_pairs_here"] (spOrdered K) := by
  refine T.F__law_ordered.ok sc_law_ordered (fun vs H Q E h => ?_) (fun cdv A outer s H vs Q E hr h => ?_)
  · obtain ⟨kl, pl, ps, rfl, _⟩ := h; rfl
  obtain ⟨kl, pl, ps, rfl, hk, ⟨xs, hp, hT⟩, h30, hsh, q⟩ := h
  refine ⟨_, (pss_cons (ps_set (i := 2) sc_law_ordered.nd rfl (Or.inl rfl) (pe_callB cr_sortedS rfl T.z_sorted (by decide +kernel) (pa_cons (pe_lc (own := [(("_law_pair" : Str), 6)]) (wi := (iList K (tVar 1))) (g := gName 6) (tt := tYes) (te := (tOp (rIxT K) (tVar 6) (tC (.int 1)))) rfl sc_law_ordered.nd (pi_list (pv 1)) (blkOk_by (own := [(("_law_pair" : Str), 6)]) (N := N_law_ordered) (sc := defScope s_law_ordered) (by decide +kernel)) (fun _ _ _ _ _ => (pg_name (i := 6) sc_law_ordered.nd rfl (Or.inl rfl))) (fun _ _ _ _ _ => pts_nil) (fun _ _ _ _ _ => (pe_ix (r := (rIxT K)) ix_tup (pv 6) pe_int (fun _ _ => rfl)))) pa_nil)))
    (pss_cons (ps_set (i := 3) sc_law_ordered.nd rfl (Or.inl rfl) (pe_lst pa_nil))
    (pss_cons (ps_for PassesOwn.never rfl (pi_list (pv 0)) (pg_name (i := 4) sc_law_ordered.nd rfl (Or.inl rfl)) (pss_one (ps_for PassesOwn.never rfl (pi_list (pv 2)) (pg_name (i := 5) sc_law_ordered.nd rfl (Or.inl rfl)) (pss_one (ps_if (PW.pt (pw_and (pt_cmpR (op_inDL (units65 hr)) (pe_tup (pa_cons (pv 4) (pa_cons (pv 5) pa_nil))) (pv 1) (by rfl)) (pw_and1 (pt_cmpR (op_ninDL (units65 hr)) (pe_tup (pa_cons (pv 4) (pa_cons (pv 5) pa_nil))) (pv 3) (by rfl))))) (pss_one (ps_expr (pe_bm PySem.F.plainAttrs_list PySem.F.slot_list_append PySem.F.type_list_append mt_append (pv 3) (pa_cons (pe_tup (pa_cons (pv 4) (pa_cons (pv 5) pa_nil))) pa_nil)))) pss_nil)))))
    (pss_one (ps_ret (pv 3)))))), ?_⟩
  have xl := prs_len hT
  refine ⟨_, rfl, pl, rfl, ⟨_, hp⟩, fun D hD => fiS_list (xs.zip ps) Prod.fst (fun _ => true) (fun z => .str z.2.2) hp (zip_left xl) (by rw [List.length_zip]; omega) hD ?_ ?_⟩
  · rintro i c H1 hc s1 Yes No yes no
    obtain ⟨c1, c2⟩ := List.getElem?_zip_eq_some.mp hc
    obtain ⟨y, b2, hy, e2, hty, hb2⟩ := prs_at hT c1
    rw [c2] at hy
    cases hy
    rw [e2]
    exact ⟨rfl, tYes_of ⟨_, rfl, b2, _, 1, _, rfl, rfl, SqT.same s1 hb2, rfl, yes rfl _ (Same.refl _)⟩⟩
  intro H1 s1 hl
  have el : ((xs.zip ps).filter fun _ => true).map (fun z => V.str z.2.2) = (ps.map (·.2)).map V.str := by
    rw [zip_right (fun _ : Pr => true) (fun y : Pr => V.str y.2) xl, Td.filter_all, List.map_map]
    rfl
  rw [el] at hl
  refine ⟨D, ps.map (·.2), rfl, SqL.of hl, by rw [List.length_map]; omega, fun ns p2 pm so hp2 => ?_⟩
  have s2 := s1.trans (Same.new hp2 (.lst (ns.map V.str)))
  have en : upd H1 p2 (.lst (ns.map V.str)) p2 = some (.lst (ns.map V.str)) := upd_same
  try dsimp only
  generalize upd H1 p2 (.lst (ns.map V.str)) = H2 at s2 en
  have le := sorted_le so
  refine ⟨Nat.zero_le _, fun du hdu => ?_⟩
  have hdu0 : H du = none := by
    cases e : H du with
    | none => rfl
    | some o => rw [s2 _ _ e] at hdu; cases hdu
  have hk2 := s2 _ _ hk
  refine ⟨_, rfl, kl, rfl, ⟨_, SqL.of (Same.new hdu _ _ _ hk2)⟩, for_list (K := K) (a := kl) (xs := kindsL.map V.str) (fun i σ H' => ∃ (v4 v5 v6 : Option V) (zs : List V) (L : List Pr), σ = [some (.ref kl), some (.ref pl), some (.ref p2), some (.ref du), v4, v5, v6] ∧
    Same H2 H' ∧ H' du = some (.lst zs) ∧ TnAll K H' zs (L.map pairD) ∧ L.Pairwise ltP ∧ ∀ x, x ∈ L ↔ x ∈ ps ∧ x.1 ∈ kindsL.take i)
    ⟨none, none, none, [], [], rfl, Same.new hdu _, upd_same, .nil, .nil, fun x => by simp⟩ (fun i σ H' _ ⟨_, _, _, _, _, _, sx, _⟩ => SqL.of (sx _ _ hk2)) ?_ ?_⟩
  · rintro i x σ H3 hx ⟨v4, v5, v6, zs, L, rfl, s3, hz, hTz, asc, mem⟩
    rw [List.getElem?_map] at hx
    obtain ⟨k, hki, rfl⟩ := Option.map_eq_some_iff.mp hx
    refine ⟨_, rfl, p2, rfl, ⟨_, SqL.of (s3 _ _ en)⟩, for_list (K := K) (a := p2) (xs := ns.map V.str) (fun j σ H' => ∃ (v5 v6 : Option V) (zs : List V) (B : List Str), σ = [some (.ref kl), some (.ref pl), some (.ref p2), some (.ref du), some (.str k), v5, v6] ∧
      Same H2 H' ∧ H' du = some (.lst zs) ∧ TnAll K H' zs ((L ++ B.map fun n => (k, n)).map pairD) ∧ B.Pairwise ltN ∧ ∀ n, n ∈ B ↔ n ∈ ns.take j ∧ (k, n) ∈ ps)
      ⟨v5, v6, zs, [], rfl, s3, hz, by rw [List.map_nil, List.append_nil]; exact hTz, .nil, fun n => by simp⟩ (fun j σ H' _ ⟨_, _, _, _, _, sx, _⟩ => SqL.of (sx _ _ en)) ?_ ?_⟩
    · rintro j x σ H4 hx ⟨v5, v6, zs, B, rfl, s4, hz, hTz, ascB, memB⟩
      rw [List.getElem?_map] at hx
      obtain ⟨n, hnj, rfl⟩ := Option.map_eq_some_iff.mp hx
      have kk := List.mem_of_getElem? hki
      have nn : shS n := by
        obtain ⟨y, hy, e⟩ := List.mem_map.mp ((pm.mem_iff).mp (List.mem_of_getElem? hnj))
        rw [← e]; exact (hsh y hy).2
      have la := pair_lay (x := (k, n)) ⟨kinds_sh k kk, nn⟩
      have shp : SeqAt.shaped (pairD (k, n)) = true := shape_of la.1 (by have := la.2; omega)
      have inps : ∀ x ∈ L ++ B.map fun n => (k, n), x ∈ ps := fun x hx => by
        rcases List.mem_append.mp hx with h | h
        · exact ((mem x).mp h).1
        · obtain ⟨m, hm, rfl⟩ := List.mem_map.mp h
          exact ((memB m).mp hm).2
      have nd : (L ++ B.map fun n => (k, n)).Nodup := asc_nodup (asc_more asc (fun x hx => kidx_lt hki ((mem x).mp hx).2) ascB)
      have len2 := sub_len nd inps
      have zl := prs_len hTz
      have skip : (n ∈ B ∨ (k, n) ∉ ps) → ∀ H5, Same H4 H5 → ∃ (w5 w6 : Option V) (zs : List V) (B : List Str), [some (V.ref kl), some (.ref pl), some (.ref p2), some (.ref du), some (.str k), some (.str n), v6] = [some (.ref kl), some (.ref pl), some (.ref p2), some (.ref du), some (.str k), w5, w6] ∧
          Same H2 H5 ∧ H5 du = some (.lst zs) ∧ TnAll K H5 zs ((L ++ B.map fun n => (k, n)).map pairD) ∧ B.Pairwise ltN ∧ ∀ m, m ∈ B ↔ m ∈ ns.take (j + 1) ∧ (k, m) ∈ ps := fun h H5 s5 => by
        refine ⟨_, _, zs, B, rfl, s4.trans s5, s5 _ _ hz, TnAll.keep (TK.of_same s5) hTz, ascB, fun m => ?_⟩
        rw [memB m, take_more hnj, List.mem_append, List.mem_singleton]
        constructor
        · rintro ⟨a, b⟩; exact ⟨.inl a, b⟩
        · rintro ⟨a | a, b⟩
          · exact ⟨a, b⟩
          · subst a
            rcases h with h | h
            · exact (memB m).mp h
            · exact absurd b h
      refine ⟨_, rfl, _, rfl, by show 2 ≤ sizeLine; decide, fun q1 hq1 => ⟨_, rfl, pairD (k, n), ps.map pairD, (Tn.new (ds := [.str k, .str n]) (TnAll.strs [k, n]) hq1).dp, .lst (SqL.same ((s2.trans s4).trans (Same.new hq1 _)) hp) (TnAll.keep (TK.of_same ((s2.trans s4).trans (Same.new hq1 _))) hT).dp, shp, (pairs_lay hsh).2, _, rfl, ?_⟩⟩
      show (if hasD (pairD (k, n)) (ps.map pairD) = true then _ else _)
      rw [show hasD (pairD (k, n)) (ps.map pairD) = decide ((k, n) ∈ ps) from pairs_any (k, n) ps]
      cases c1 : decide ((k, n) ∈ ps) with
      | false => exact if_false_of rfl (if_false_of rfl (skip (.inr (of_decide_eq_false c1)) _ (Same.new hq1 _)))
      | true =>
      have inp := of_decide_eq_true c1
      refine if_true_of rfl ?_
      have sq1 := Same.new hq1 (.tup [V.str k, .str n])
      generalize upd H4 q1 (.tup [V.str k, .str n]) = H5 at sq1
      refine ⟨_, rfl, _, rfl, by show 2 ≤ sizeLine; decide, fun q2 hq2 => ⟨_, rfl, pairD (k, n), (L ++ B.map fun n => (k, n)).map pairD, (Tn.new (ds := [.str k, .str n]) (TnAll.strs [k, n]) hq2).dp, .lst (SqL.of ((sq1.trans (Same.new hq2 _)) _ _ hz)) (TnAll.keep (TK.of_same (sq1.trans (Same.new hq2 _))) hTz).dp, shp, (pairs_lay fun x hx => hsh x (inps x hx)).2, _, rfl, ?_⟩⟩
      show (if (!hasD (pairD (k, n)) ((L ++ B.map fun n => (k, n)).map pairD)) = true then _ else _)
      rw [show hasD (pairD (k, n)) ((L ++ B.map fun n => (k, n)).map pairD) = decide ((k, n) ∈ L ++ B.map fun n => (k, n)) from pairs_any (k, n) _]
      have sq2 := sq1.trans (Same.new hq2 (.tup [V.str k, .str n]))
      generalize upd H5 q2 (.tup [V.str k, .str n]) = H6 at sq2
      have notL : (k, n) ∉ L := fun h => Nat.lt_irrefl _ (kidx_lt hki ((mem (k, n)).mp h).2)
      cases c2 : decide ((k, n) ∈ L ++ B.map fun n => (k, n)) with
      | true =>
        refine if_false_of rfl (skip (.inl ?_) _ sq2)
        rcases List.mem_append.mp (of_decide_eq_true c2) with h | h
        · exact absurd h notL
        · obtain ⟨m, hm, e⟩ := List.mem_map.mp h
          cases e
          exact hm
      | false =>
      have notB : n ∉ B := fun h => of_decide_eq_false c2 (List.mem_append_right _ (List.mem_map.mpr ⟨n, h, rfl⟩))
      refine if_true_of rfl ⟨_, rfl, .inl ⟨rfl, _, SqL.of (sq2 _ _ hz)⟩, _, rfl, _, rfl, by show 2 ≤ sizeLine; decide, fun q3 hq3 => ⟨du, zs, .ref q3, rfl, rfl, by rw [upd_ne (ne_of_none (sq2 _ _ hz) hq3)]; exact sq2 _ _ hz, small1000 (by omega), ?_⟩⟩
      have e3 : upd H6 q3 (.tup [.str k, .str n]) du = some (.lst zs) := by rw [upd_ne (ne_of_none (sq2 _ _ hz) hq3)]; exact sq2 _ _ hz
      have tk3 : TK H4 (upd (upd H6 q3 (.tup [.str k, .str n])) du (.lst (zs ++ [.ref q3]))) := (TK.of_same (sq2.trans (Same.new hq3 _))).trans (TK.upd (by rw [e3]; trivial))
      refine ⟨some (.str n), v6, zs ++ [.ref q3], B ++ [n], rfl, own_same ((s4.trans sq2).trans (Same.new hq3 _)) hdu, upd_same, ?_, ?_, fun m => ?_⟩
      · have eL : (L ++ (B ++ [n]).map fun n => (k, n)).map pairD = (L ++ B.map fun n => (k, n)).map pairD ++ [pairD (k, n)] := by simp
        rw [eL]
        exact TnAll.append (TnAll.keep tk3 hTz) (TnAll.one (Tn.keep (TK.upd (by rw [e3]; trivial)) (Tn.new (ds := [.str k, .str n]) (TnAll.strs [k, n]) hq3)))
      · refine List.pairwise_append.mpr ⟨ascB, List.pairwise_singleton .., fun m hm y hy => ?_⟩
        rw [List.mem_singleton.mp hy]
        refine ltN_total (fun lt => ?_) (fun e => notB (e ▸ hm))
        obtain ⟨h1, _⟩ := (memB m).mp hm
        obtain ⟨j', hj'⟩ := List.mem_iff_getElem?.mp h1
        rw [List.getElem?_take] at hj'
        split at hj'
        · rename_i jl
          obtain ⟨g1, g2⟩ := List.getElem?_eq_some_iff.mp hj'
          obtain ⟨g3, g4⟩ := List.getElem?_eq_some_iff.mp hnj
          have := List.pairwise_iff_getElem.mp le j' j g1 g3 jl
          rw [g2, g4] at this
          exact this lt
        · cases hj'
      · rw [List.mem_append, List.mem_singleton, memB m, take_more hnj, List.mem_append, List.mem_singleton]
        constructor
        · rintro (⟨a, b⟩ | rfl)
          · exact ⟨.inl a, b⟩
          · exact ⟨.inr rfl, inp⟩
        · rintro ⟨a | a, b⟩
          · exact .inl ⟨a, b⟩
          · exact .inr a
    · rintro σ H4 ⟨v5, v6, zs, B, rfl, s4, hz, hTz, ascB, memB⟩
      refine ⟨_, _, _, zs, L ++ B.map fun n => (k, n), rfl, s4, hz, hTz, asc_more asc (fun x hx => kidx_lt hki ((mem x).mp hx).2) ascB, fun x => ?_⟩
      rw [List.mem_append, mem x, take_more hki, List.mem_append, List.mem_singleton, List.mem_map]
      constructor
      · rintro (⟨h1, h2⟩ | ⟨n, h1, rfl⟩)
        · exact ⟨h1, .inl h2⟩
        · exact ⟨((memB n).mp h1).2, .inr rfl⟩
      · rintro ⟨h1, h2 | h2⟩
        · exact .inl ⟨h1, h2⟩
        · refine .inr ⟨x.2, (memB x.2).mpr ⟨?_, by rw [← h2]; exact h1⟩, by rw [← h2]⟩
          rw [List.length_map, List.take_length]
          exact (pm.mem_iff).mpr (List.mem_map.mpr ⟨x, h1, rfl⟩)
  · rintro σ H3 ⟨v4, v5, v6, zs, L, rfl, s3, hz, hTz, asc, mem⟩
    exact ⟨_, rfl, q du zs L H3 (s2.trans s3) hdu0 hz hTz ⟨asc, fun x => by rw [mem x, List.take_of_length_le (by rw [List.length_map]; exact Nat.le_refl _)]⟩⟩
theorem ok_law_refused (T : Tops w K mg) (G_Verdict_init : FnOk P w K mg base (L2.CX P w) 5 T.a_Verdict_init T.d_Verdict_init ["self", "pairs"] (spVerd K T.c_Verdict T.c_InvalidKind)) :
    FnOk P w K mg base CX0 7 T.a__law_refused T.d__law_refused ["_law_pairs_here"] (spRefused K) := by
  refine T.F__law_refused.ok sc_law_refused (fun vs H Q E h => ?_) (fun cdv A outer s H vs Q E hr h => ?_)
  · obtain ⟨pl, ps, rfl, _⟩ := h; rfl
  obtain ⟨pl, ps, rfl, hp, h60, hsh, q⟩ := h
  refine ⟨_, (pss_cons (ps_set (i := 1) sc_law_refused.nd rfl (Or.inl rfl) pe_non)
    (pss_cons (ps_try_asL rfl rfl sc_law_refused.nd takes0 (fun W pn xe tk _ => (pss_one (ps_expr (pe_makeAt T.k_Verdict G_Verdict_init (hr.mono (by omega)) rfl T.m_Verdict T.b_Verdict_init (fun σ => passAt tk σ) (pa_cons (pv 0) pa_nil))))) (Clauses.more (i := 2) rfl rfl ⟨rfl, by decide, .inl T.m_InvalidKind⟩ (fun a oe cls d pn hz hf => (pss_one (ps_set (i := 1) sc_law_refused.nd rfl (Or.inl rfl) (pe_xf ⟨T.xa_InvalidKind, T.xg_InvalidKind, T.x_InvalidKind.exC, T.xh_InvalidKind⟩ T.n_InvalidKind_kind hz hf (pv 2))))) Clauses.none))
    (pss_one (ps_ret (pv 1))))), ?_⟩
  refine ⟨_, rfl, fun x dx hx hdx ne => ?_⟩
  have hx1 : upd H dx (.own x) x = none := by rw [upd_ne (Ne.symm ne)]; exact hx
  have s4 : Same H (upd (upd H dx (.own x)) x (.ins T.c_Verdict dx [])) := (Same.new hdx _).trans (Same.new hx1 _)
  refine ⟨x, dx, pl, ps, rfl, upd_same, .inl (hp.same s4), h60, hsh, fun bk L t H3 iv s3 pt h3 => ⟨rfl, _, rfl, ?_⟩, fun k hk dd H2 s2 hd he => ?_⟩
  · have := q _ (own_same (o := .ins T.c_Verdict dx (verdF t)) (s4.trans s3) hx)
    rw [bk] at this
    exact this
  · have := q _ (s4.trans s2)
    rw [hk] at this
    refine ⟨true, T.xe_InvalidKind, fun _ ea hea => ?_, fun z => nomatch z⟩
    exact ⟨_, rfl, rfl, rfl, dd, _, _, rfl, he, rfl, _, rfl, this⟩
theorem ok_law_is (T : Tops w K mg) (G_Verdict_pairs : FnOk P w K mg base CX0 1 T.a_Verdict_pairs T.d_Verdict_pairs ["self"] (spPairs K T.c_Verdict)) (G_Verdict_len : FnOk P w K mg base CX0 1 T.a_Verdict_len T.d_Verdict_len ["self"] (spLenV K T.c_Verdict))
    (G_Verdict_eq : FnOk P w K mg base CX0 1 T.a_Verdict_eq T.d_Verdict_eq ["self", "other"] (spEqV K T.c_Verdict)) (G_Verdict_init : FnOk P w K mg base CX0 5 T.a_Verdict_init T.d_Verdict_init ["self", "pairs"] (spVerd0 K T.c_Verdict)) :
    FnOk P w K mg base CX0 7 T.a__law_is T.d__law_is ["_law_verdict", "_law_due"] (spIs K T.c_Verdict) := by
  refine T.F__law_is.ok sc_law_is (fun vs H Q E h => ?_) (fun cdv A outer s H vs Q E hr h => ?_)
  · obtain ⟨a, d, L, rfl, _⟩ := h; rfl
  obtain ⟨a, d, L, rfl, hv, ⟨xs, hd, hT⟩, vo, asc, q⟩ := h
  refine ⟨_, (pss_cons (ps_if (PW.pt (pw_or (pt_not (pt_val (pe_callB (C8.call_isC T.i_Verdict) rfl T.z_isinstance (by decide +kernel) (pa_cons (pv 0) (pa_cons (pe_glob (v := .ref T.c_Verdict) rfl T.m_Verdict rfl) pa_nil))))) (pw_or (pt_cmpR (op_neD hr.units) (pe_meth0 (pv 0) T.l_Verdict T.t_Verdict_pairs G_Verdict_pairs (hr.mono (by omega)) T.b_Verdict_pairs .nil pass0) (pv 1) (nomark _)) (pw_or1 (pt_cmpR op_ne (pe_callB (cr_ownLen G_Verdict_len T.xl_Verdict T.xfl_Verdict T.b_Verdict_len (hr.mono (by omega))) rfl T.z_len (by decide +kernel) (pa_cons (pv 0) pa_nil)) (pe_callB call_len rfl T.z_len PySem.boot_len (pa_cons (pv 1) pa_nil)) (nomark _)))))) (pss_one (ps_ret pe_bl)) pss_nil)
    (pss_cons (ps_set (i := 2) sc_law_is.nd rfl (Or.inl rfl) (pe_callTy call_list_of rfl T.z_list (by decide +kernel) (pa_cons (pv 1) pa_nil)))
    (pss_cons (ps_expr (pe_bm0 PySem.F.plainAttrs_list PySem.F.slot_list_reverse PySem.F.type_list_reverse mt_reverse (pv 2)))
    (pss_one (ps_ret (pe_and (pe_cmpR (op_eqO G_Verdict_eq T.xq_Verdict T.xfq_Verdict T.b_Verdict_eq (hr.mono (by omega))) (pv 0) (pe_make T.k_Verdict G_Verdict_init (hr.mono (by omega)) rfl T.m_Verdict T.b_Verdict_init .nil pass0 (pa_cons (pv 2) pa_nil)) (nomark _)) (pe_one (pe_cmpR (op_eqO G_Verdict_eq T.xq_Verdict T.xfq_Verdict T.b_Verdict_eq (hr.mono (by omega))) (pe_make T.k_Verdict G_Verdict_init (hr.mono (by omega)) rfl T.m_Verdict T.b_Verdict_init .nil pass0 (pa_cons (pe_callTy (T := "tuple") call_tuple_of rfl T.z_tuple (by decide +kernel) (pa_cons (pv 2) pa_nil)) pa_nil)) (pv 0) (nomark _))))))))), ?_⟩
  have hv' := hv
  obtain ⟨dx, t, ha, ht⟩ := hv'
  have xl := prs_len hT
  have few := vo.few
  refine ⟨_, rfl, a, dx, _, rfl, ha, true, rfl, if_false_of rfl ?_⟩
  refine ⟨_, rfl, a, dx, _, rfl, ha, rfl, a, L, rfl, hv, fun l ys H1 s1 hl0 hl hTl => ⟨_, rfl, .list (L.map pairD), .list (L.map pairD), .lst (SqL.of hl) hTl.dp, .lst (SqL.same s1 hd) (TnAll.keep (TK.of_same s1) hT).dp, (pairs_lay vo.sh).2, (pairs_lay vo.sh).2, _, rfl, ?_⟩⟩
  show (if (!PyData.eqvAll (L.map pairD) (L.map pairD)) = true then _ else _)
  rw [pairs_eqv, decide_eq_true rfl]
  refine if_false_of rfl ?_
  refine ⟨_, rfl, .ref a, rfl, a, dx, _, rfl, s1 _ _ ha, a, L, rfl, hv.same s1, fun H2 s2 => ⟨_, rfl, by omega, by omega, _, rfl, .ref d, _, rfl, .inl ⟨xs, SqL.same (s1.trans s2) hd, rfl⟩, rfl, _, rfl, ?_⟩⟩
  rw [xl, decide_eq_true rfl]
  refine if_false_of rfl ?_
  have s12 := s1.trans s2
  refine ⟨_, rfl, d, xs, rfl, .inl (SqL.same s12 hd), fun bk hbk => ?_⟩
  refine ⟨_, rfl, .inl ⟨rfl, _, SqL.of upd_same⟩, bk, xs, rfl, rfl, upd_same, ?_⟩
  have s3 : Same H2 (upd (upd H2 bk (.lst xs)) bk (.lst xs.reverse)) := own_same (Same.new hbk _) hbk
  have e3 : (upd (upd H2 bk (.lst xs)) bk (.lst xs.reverse)) bk = some (.lst xs.reverse) := upd_same
  generalize upd (upd H2 bk (.lst xs)) bk (.lst xs.reverse) = H3 at s3 e3 ⊢
  have s03 := s12.trans s3
  have hR : TnAll K H3 xs.reverse (L.reverse.map pairD) := by rw [List.map_reverse]; exact tn_rev (TnAll.keep (TK.of_same s03) hT)
  have isv : IsV L.reverse L := ⟨asc, fun x => by rw [List.mem_reverse]; exact ⟨fun h => ⟨h, vo.kd x h⟩, fun h => h.1⟩⟩
  have rl : L.reverse.length ≤ 60 := by rw [List.length_reverse]; omega
  have rs : ∀ x ∈ L.reverse, shP x := fun x hx => vo.sh x (List.mem_reverse.mp hx)
  have rk : ∀ x ∈ L.reverse, x.1 ∈ kindsL := fun x hx => vo.kd x (List.mem_reverse.mp hx)
  refine ⟨_, rfl, _, rfl, mk_new (Same.refl _) (.inl ⟨_, SqL.of e3, hR⟩) rl rs rk fun b N H4 s4 hb0 hv4 iv => ?_⟩
  obtain rfl := iv.uniq isv
  obtain ⟨dy, u, hb, hu⟩ := id hv4
  have s04 := s03.trans s4
  refine ⟨a, b, dx, dy, _, _, rfl, rfl, s04 _ _ ha, hb, a, b, N, N, rfl, hv.same s04, hv4, vo, vo, fun H5 s5 => ⟨_, rfl, _, rfl, ?_⟩⟩
  rw [decide_eq_true rfl]
  refine iteT ?_
  have s45 := s4.trans s5
  refine ⟨_, rfl, bk, _, rfl, .inl ⟨SqL.of (s45 _ _ e3), fun t2 ht2 => mk_new (Same.refl _) (.inr ⟨_, SqT.of upd_same, TnAll.keep (TK.of_same (s45.trans (Same.new ht2 _))) hR⟩) rl rs rk fun c M H7 s7 hc0 hvc iv2 => ?_⟩⟩
  obtain rfl := iv2.uniq isv
  obtain ⟨dz, v, hc, hw⟩ := id hvc
  have s07 := s03.trans ((s45.trans (Same.new ht2 _)).trans s7)
  refine ⟨_, rfl, c, a, dz, dx, _, _, rfl, rfl, hc, s07 _ _ ha, c, a, M, M, rfl, hvc, hv.same s07, vo, vo, fun H8 s8 => ⟨_, rfl, ?_⟩⟩
  rw [decide_eq_true rfl]
  exact q H8 (s07.trans s8)
end
end K50
namespace K50
open PySem PySem.Spec PyProof.Rows L2 Td
theorem VAt.keep {K : PySem.W.Frag} {H H' : Hp} {C a st : Addr} {L : List Pr} (k : Keep st H H') (ch : Chg (H st)) (n : a ≠ st) (h : VAt K H C a L) : VAt K H' C a L := by
  obtain ⟨dx, t, h1, h2⟩ := h
  exact ⟨dx, t, k _ _ n h1, h2.tk (TK.of_keep k ch)⟩
theorem fresh_same {H H1 H' : Hp} {st : Addr} (s : Same H H1) (f : H st = none) (k : Keep st H1 H') : Same H H' := fun b o e => k b o (fun z => by rw [z, f] at e; cases e) (s b o e)
theorem StOk.sm {H H' : Hp} {st sc : Addr} (s : Same H H') (h : StOk H st sc) : StOk H' st sc := by
  obtain ⟨cs, i, d, c, z, a1, a2, r⟩ := h
  exact ⟨cs, i, d, c, z, s _ _ a1, s _ _ a2, r⟩
theorem gone {H H' : Hp} {p : Addr} (s : Same H H') (h : H' p = none) : H p = none := by
  cases e : H p with
  | none => rfl
  | some o => rw [s _ _ e] at h; cases h
def wrongL : List Str := kindsL.map (· ++ ("s" : Str))
theorem wrong_ok : ∀ z ∈ wrongL, PyData.strOk z = true ∧ z ∉ kindsL := by decide +kernel
theorem kind_len : ∀ k ∈ kindsL, k.length + ("s" : Str).length ≤ 20 := by decide +kernel
theorem mt_ok : PyData.strOk ("" : Str) = true := by decide +kernel
theorem nm_sh {z : Str} (h : isNm z = true) : shS z := nm_ok h
theorem str3 (ns : List Str) (z : Str) : ns.map V.str ++ [V.str z] = (ns ++ [z]).map V.str := by rw [List.map_append]; rfl
/-- what stands: the verdict, the pairs given, the names -/
structure Fx (K : PySem.W.Frag) (C a nm gl : Addr) (L ps : List Pr) (xs : List V) (N4 : List Str) (H : Hp) : Prop where
  v : VAt K H C a L
  g : H gl = some (.lst xs)
  n : H nm = some (.lst (N4.map V.str))
  t : TnAll K H xs (ps.map pairD)
theorem Fx.same {K : PySem.W.Frag} {C a nm gl : Addr} {L ps : List Pr} {xs : List V} {N4 : List Str} {H H' : Hp} (s : Same H H') (f : Fx K C a nm gl L ps xs N4 H) : Fx K C a nm gl L ps xs N4 H' := ⟨f.v.same s, s _ _ f.g, s _ _ f.n, TnAll.keep (TK.of_same s) f.t⟩
theorem Fx.keep {K : PySem.W.Frag} {C a nm gl p : Addr} {L ps : List Pr} {xs l : List V} {N4 : List Str} {H H' : Hp} (k : Keep p H H') (hp : H p = some (.lst l)) (n1 : gl ≠ p) (n2 : nm ≠ p) (f : Fx K C a nm gl L ps xs N4 H) : Fx K C a nm gl L ps xs N4 H' := by
  have ch : Chg (H p) := by rw [hp]; trivial
  obtain ⟨v, g, n, t⟩ := f
  refine ⟨v.keep k ch (fun e => ?_), k _ _ n1 g, k _ _ n2 n, TnAll.keep (TK.of_keep k ch) t⟩
  obtain ⟨dx, t, h, _⟩ := v
  rw [e, hp] at h
  cases h
theorem kinds_hd {L : List Pr} : (kindsL.filter fun k => decide (k ∈ L.map (·.1))) = kindsOf L := rfl
theorem kof_sh {L : List Pr} : ∀ z ∈ kindsOf L, shS z := fun z h => kinds_sh z (List.mem_filter.mp h).1
theorem texts_eqv : ∀ l : List Str, PyData.eqvAll (l.map PyData.str) (l.map PyData.str) = true
  | [] => by simp [PyData.eqvAll]
  | x :: l => by simp [PyData.eqvAll, PyData.eqv, texts_eqv l]
theorem oth_ok : PyData.strOk ("other" : Str) = true ∧ PyData.strOk ("otherones" : Str) = true := by decide +kernel
theorem tn_take {K : PySem.W.Frag} {H : Hp} : ∀ (n : Nat) {xs : List V} {ds : List PyData}, TnAll K H xs ds → TnAll K H (xs.take n) (ds.take n)
  | 0, _, _, _ => .nil
  | _ + 1, _, _, .nil => .nil
  | n + 1, _, _, .cons a b => .cons a (tn_take n b)
theorem tn_drop {K : PySem.W.Frag} {H : Hp} : ∀ (n : Nat) {xs : List V} {ds : List PyData}, TnAll K H xs ds → TnAll K H (xs.drop n) (ds.drop n)
  | 0, _, _, h => h
  | _ + 1, _, _, .nil => .nil
  | n + 1, _, _, .cons _ b => tn_drop n b
theorem badK_in {ps qs : List Pr} {y : Pr} (al : ∀ x ∈ ps, x.1 ∈ kindsL) (n : y.1 ∉ kindsL) : badK (ps ++ y :: qs) = some y.1 :=
  badK_at (i := ps.length) (by rw [List.getElem?_append_right (Nat.le_refl _), Nat.sub_self]; rfl) (by rw [List.take_left]; exact al) n
def spPart (K : PySem.W.Frag) : Sp := fun vs H Q _ => ∃ (a : Addr) (ns : List Int), vs = [.ref a] ∧ SqL K H a (ns.map V.int) ∧ ns.length ≤ 63 ∧ ∀ H', Same H H' → Q (.bl true) H'
section
variable {P : Program} {w : World} {K : PySem.W.Frag} {mg : Str → Option Value} {base : Heap}
theorem ok_first_part (T : Tops w K mg)
    (G__law_state : FnOk P w K mg base CX0 1 T.a__law_state T.d__law_state ["_law_script"] (spState K))
    (G__law_draw : FnOk P w K mg base CX0 1 T.a__law_draw T.d__law_draw ["_law_state_here", "_law_many"] spDraw)
    (G__law_names : FnOk P w K mg base CX0 2 T.a__law_names T.d__law_names ["_law_state_here", "_law_many"] spNames)
    (G__law_kinds : FnOk P w K mg base CX0 1 T.a__law_kinds T.d__law_kinds [] spKindsL)
    (G__law_pairs : FnOk P w K mg base CX0 2 T.a__law_pairs T.d__law_pairs ["_law_state_here", "_law_names_here", "_law_most_pairs"] (spPairsL K))
    (G__law_ordered : FnOk P w K mg base CX0 1 T.a__law_ordered T.d__law_ordered ["_law_kinds_here", "_law_pairs_here"] (spOrdered K))
    (G__law_refused : FnOk P w K mg base CX0 7 T.a__law_refused T.d__law_refused ["_law_pairs_here"] (spRefused K))
    (G_Verdict_pairs : FnOk P w K mg base CX0 1 T.a_Verdict_pairs T.d_Verdict_pairs ["self"] (spPairs K T.c_Verdict))
    (G_Verdict_kinds : FnOk P w K mg base CX0 1 T.a_Verdict_kinds T.d_Verdict_kinds ["self"] (spKinds K T.c_Verdict))
    (G_Verdict_len : FnOk P w K mg base CX0 1 T.a_Verdict_len T.d_Verdict_len ["self"] (spLenV K T.c_Verdict))
    (G_Verdict_contains : FnOk P w K mg base CX0 1 T.a_Verdict_contains T.d_Verdict_contains ["self", "x"] (spHas K T.c_Verdict))
    (G_Verdict_init : FnOk P w K mg base CX0 5 T.a_Verdict_init T.d_Verdict_init ["self", "pairs"] (spVerd0 K T.c_Verdict)) :
    FnOk P w K mg base CX0 9 T.a__law_first_part T.d__law_first_part ["_law_script"] (spPart K) := by
  refine T.F__law_first_part.ok sc_law_first_part (fun vs H Q E h => ?_) (fun cdv A outer s H vs Q E hr h => ?_)
  · obtain ⟨a, ns, rfl, _⟩ := h; rfl
  obtain ⟨sr, cs, rfl, hsr, h63, q⟩ := h
  refine ⟨_, (pss_cons (ps_set (i := 1) sc_law_first_part.nd rfl (Or.inl rfl) (pe_call G__law_state (hr.mono (by omega)) rfl T.m__law_state T.F__law_state.kp T.b__law_state .nil pass0 (pa_cons (pv 0) pa_nil)))
    (pss_cons (ps_set (i := 2) sc_law_first_part.nd rfl (Or.inl rfl) (pe_op op_cat (pe_call G__law_names (hr.mono (by omega)) rfl T.m__law_names T.F__law_names.kp T.b__law_names .nil pass0 (pa_cons (pv 1) (pa_cons pe_int pa_nil))) (pe_lst (pa_cons pe_str pa_nil))))
    (pss_cons (ps_set (i := 3) sc_law_first_part.nd rfl (Or.inl rfl) (pe_call G__law_draw (hr.mono (by omega)) rfl T.m__law_draw T.F__law_draw.kp T.b__law_draw .nil pass0 (pa_cons (pv 1) (pa_cons pe_int pa_nil))))
    (pss_cons (ps_set (i := 4) sc_law_first_part.nd rfl (Or.inl rfl) (pe_call G__law_draw (hr.mono (by omega)) rfl T.m__law_draw T.F__law_draw.kp T.b__law_draw .nil pass0 (pa_cons (pv 1) (pa_cons pe_int pa_nil))))
    (pss_cons (ps_set (i := 5) sc_law_first_part.nd rfl (Or.inl rfl) (pe_ix ix_list (pe_lc (own := [(("_law_kind" : Str), 13)]) (wi := (iList K (tCall spKindsL [] E0 tNil))) (g := gName 13) (tt := tYes) (te := (tOp (fun x y H Q => ∃ i j, x = .str i ∧ y = .str j ∧ i.length + j.length ≤ sizeLine ∧ Q (.str (i ++ j)) H) (tVar 13) (tC (.str "s")))) rfl sc_law_first_part.nd (pi_list (pe_call0 G__law_kinds (hr.mono (by omega)) rfl T.m__law_kinds T.F__law_kinds.kp T.b__law_kinds .nil pass0)) (blkOk_by (own := [(("_law_kind" : Str), 13)]) (N := N_law_first_part) (sc := defScope s_law_first_part) (by decide +kernel)) (fun _ _ _ _ _ => (pg_name (i := 13) sc_law_first_part.nd rfl (Or.inl rfl))) (fun _ _ _ _ _ => pts_nil) (fun _ _ _ _ _ => (pe_op op_add_str (pv 13) pe_str))) (pe_call G__law_draw (hr.mono (by omega)) rfl T.m__law_draw T.F__law_draw.kp T.b__law_draw .nil pass0 (pa_cons (pv 1) (pa_cons pe_int pa_nil))) (fun _ _ => rfl)))
    (pss_cons (ps_set (i := 6) sc_law_first_part.nd rfl (Or.inl rfl) (pe_call G__law_draw (hr.mono (by omega)) rfl T.m__law_draw T.F__law_draw.kp T.b__law_draw .nil pass0 (pa_cons (pv 1) (pa_cons pe_int pa_nil))))
    (pss_cons (ps_set (i := 7) sc_law_first_part.nd rfl (Or.inl rfl) (pe_call G__law_pairs (hr.mono (by omega)) rfl T.m__law_pairs T.F__law_pairs.kp T.b__law_pairs .nil pass0 (pa_cons (pv 1) (pa_cons (pv 2) (pa_cons pe_int pa_nil)))))
    (pss_cons (ps_set (i := 8) sc_law_first_part.nd rfl (Or.inl rfl) (pe_callTy call_list_of rfl T.z_list (by decide +kernel) (pa_cons (pv 7) pa_nil)))
    (C8.pss_cut (ps_set (i := 9) sc_law_first_part.nd rfl (Or.inl rfl) (pe_make T.k_Verdict G_Verdict_init (hr.mono (by omega)) rfl T.m_Verdict T.b_Verdict_init .nil pass0 (pa_cons (pe_ifExp (pt_cmpR op_eq (pv 6) pe_int (nomark _)) (pe_callTy (T := "tuple") call_tuple_of rfl T.z_tuple (by decide +kernel) (pa_cons (pv 7) pa_nil)) (pv 8)) pa_nil)))
    (pss_cons (ps_if (pt_cmpR (op_neD hr.units) (pv 8) (pv 7) (nomark _)) (pss_one (ps_ret pe_bl)) pss_nil)
    (pss_cons (ps_expr (pe_bm PySem.F.plainAttrs_list PySem.F.slot_list_append PySem.F.type_list_append mt_append (pv 8) (pa_cons (pe_tup (pa_cons pe_str (pa_cons pe_str pa_nil))) pa_nil)))
    (pss_cons (ps_set (i := 10) sc_law_first_part.nd rfl (Or.inr rfl) (pe_call G__law_ordered (hr.mono (by omega)) rfl T.m__law_ordered T.F__law_ordered.kp T.b__law_ordered .nil pass0 (pa_cons (pe_call0 G__law_kinds (hr.mono (by omega)) rfl T.m__law_kinds T.F__law_kinds.kp T.b__law_kinds .nil pass0) (pa_cons (pv 7) pa_nil))))
    (pss_cons (ps_set (i := 11) sc_law_first_part.nd rfl (Or.inl rfl) (pe_meth0 (pv 9) T.l_Verdict T.t_Verdict_pairs G_Verdict_pairs (hr.mono (by omega)) T.b_Verdict_pairs .nil pass0))
    (pss_cons (ps_if (PW.pt (pw_or (pt_not (pt_val (pe_callB call_isi rfl T.z_isinstance (by decide +kernel) (pa_cons (pv 11) (pa_cons (pe_bltn (v := .ty "list") rfl T.z_list (by decide +kernel) rfl) pa_nil))))) (pw_or1 (pt_cmpR (op_neD hr.units) (pv 11) (pv 10) (nomark _))))) (pss_one (ps_ret pe_bl)) pss_nil)
    (pss_cons (ps_expr (pe_bm PySem.F.plainAttrs_list PySem.F.slot_list_append PySem.F.type_list_append mt_append (pv 11) (pa_cons (pe_tup (pa_cons pe_str (pa_cons pe_str pa_nil))) pa_nil)))
    (pss_cons (ps_setLc (i := 12) (own := [(("_law_kind" : Str), 13)]) (wi := (iList K (tCall spKindsL [] E0 tNil))) (g := gName 13) (tt := (tTest (tOp (rIn K false) (tVar 13) (tLc (iList K (tVar 10)) (gName 16) tYes (tOp (rIxT K) (tVar 16) (tC (.int 0))) (List.map (fun x => x.2) [(("_law_pair" : Str), 16)]))))) (te := (tVar 13)) rfl sc_law_first_part.nd rfl rfl (sw_true rfl rfl rfl (by decide +kernel)) (pi_list (pe_call0 G__law_kinds (hr.mono (by omega)) rfl T.m__law_kinds T.F__law_kinds.kp T.b__law_kinds .nil pass0)) (blkOk_by (own := [(("_law_kind" : Str), 13)]) (N := N_law_first_part) (sc := defScope s_law_first_part) (by decide +kernel)) (fun _ _ _ _ _ => (pg_name (i := 13) sc_law_first_part.nd rfl (Or.inl rfl))) (fun _ _ _ _ _ => (pts_one (pt_cmpR op_in_seq (pv 13) (by exact (pe_lc (own := [(("_law_pair" : Str), 16)]) (wi := (iList K (tVar 10))) (g := gName 16) (tt := tYes) (te := (tOp (rIxT K) (tVar 16) (tC (.int 0)))) rfl sc_law_first_part.nd (pi_list (pv 10)) (blkOk_by (own := [(("_law_pair" : Str), 16)]) (by kernel_rfl)) (fun _ _ _ _ _ => (pg_name (i := 16) sc_law_first_part.nd rfl (Or.inl rfl))) (fun _ _ _ _ _ => pts_nil) (fun _ _ _ _ _ => (pe_ix (r := (rIxT K)) ix_tup (pv 16) pe_int (fun _ _ => rfl))))) (by rfl)))) (fun _ _ _ _ _ => (pv 13)))
    (pss_cons (ps_set (i := 11) sc_law_first_part.nd rfl (Or.inl rfl) (pe_meth0 (pv 9) T.l_Verdict T.t_Verdict_kinds G_Verdict_kinds (hr.mono (by omega)) T.b_Verdict_kinds .nil pass0))
    (pss_cons (ps_if (PW.pt (pw_or (pt_not (pt_val (pe_callB call_isi rfl T.z_isinstance (by decide +kernel) (pa_cons (pv 11) (pa_cons (pe_bltn (v := .ty "list") rfl T.z_list (by decide +kernel) rfl) pa_nil))))) (pw_or1 (pt_cmpR (op_neD hr.units) (pv 11) (pv 12) (nomark _))))) (pss_one (ps_ret pe_bl)) pss_nil)
    (pss_cons (ps_expr (pe_bm PySem.F.plainAttrs_list PySem.F.slot_list_append PySem.F.type_list_append mt_append (pv 11) (pa_cons pe_str pa_nil)))
    (pss_cons (ps_if (PW.pt (pw_or (pt_cmpR (op_neD hr.units) (pe_meth0 (pv 9) T.l_Verdict T.t_Verdict_pairs G_Verdict_pairs (hr.mono (by omega)) T.b_Verdict_pairs .nil pass0) (pv 10) (nomark _)) (pw_or (pt_cmpR op_ne (pe_callB (cr_ownLen G_Verdict_len T.xl_Verdict T.xfl_Verdict T.b_Verdict_len (hr.mono (by omega))) rfl T.z_len (by decide +kernel) (pa_cons (pv 9) pa_nil)) (pe_callB call_len rfl T.z_len PySem.boot_len (pa_cons (pv 10) pa_nil)) (nomark _)) (pw_or1 (pt_cmpR op_ne (pe_callTy (T := "bool") (cr_ownBool G_Verdict_len T.xl_Verdict T.xb_Verdict T.xfl_Verdict T.b_Verdict_len (hr.mono (by omega))) rfl T.z_bool (by decide +kernel) (pa_cons (pv 9) pa_nil)) (pe_cmpR op_gt (pe_callB call_len rfl T.z_len PySem.boot_len (pa_cons (pv 10) pa_nil)) pe_int (nomark _)) (nomark _)))))) (pss_one (ps_ret pe_bl)) pss_nil)
    (pss_cons (ps_for PassesOwn.never rfl (pi_list (pe_op op_cat (pe_call0 G__law_kinds (hr.mono (by omega)) rfl T.m__law_kinds T.F__law_kinds.kp T.b__law_kinds .nil pass0) (pe_lst (pa_cons (pv 5) pa_nil)))) (pg_name (i := 13) sc_law_first_part.nd rfl (Or.inl rfl)) (pss_one (ps_for PassesOwn.never rfl (pi_list (pe_op op_cat (pv 2) (pe_lst (pa_cons pe_str pa_nil)))) (pg_name (i := 14) sc_law_first_part.nd rfl (Or.inl rfl)) (pss_one (ps_if (pt_cmpR op_ne (pe_cmpR (op_ownIn G_Verdict_contains T.xc_Verdict T.xfc_Verdict T.b_Verdict_contains (hr.mono (by omega))) (pe_tup (pa_cons (pv 13) (pa_cons (pv 14) pa_nil))) (pv 9) (by rfl)) (pe_cmpR (op_inDL (units65 hr)) (pe_tup (pa_cons (pv 13) (pa_cons (pv 14) pa_nil))) (pv 10) (by rfl)) (nomark _)) (pss_one (ps_ret pe_bl)) pss_nil)))))
    (pss_cons (ps_if (pt_cmpR op_eq (pv 3) pe_int (nomark _)) (pss_one (ps_ret (pe_cmpR (op_eqD hr.units) (pe_meth0 (pv 9) T.l_Verdict T.t_Verdict_kinds G_Verdict_kinds (hr.mono (by omega)) T.b_Verdict_kinds .nil pass0) (pv 12) (nomark _)))) pss_nil)
    (pss_cons (ps_set (i := 15) sc_law_first_part.nd rfl (Or.inl rfl) (pe_callTy call_list_of rfl T.z_list (by decide +kernel) (pa_cons (pv 7) pa_nil)))
    (pss_cons (ps_expr (pe_bm PySem.F.plainAttrs_list PySem.F.slot_list_insert PySem.F.type_list_insert mt_insert (pv 15) (pa_cons (pv 4) (pa_cons (pe_tup (pa_cons (pv 5) (pa_cons (pe_ix ix_list (pv 2) pe_int (fun _ _ => rfl)) pa_nil))) pa_nil))))
    (pss_one (ps_ret (pe_cmpR op_eq (pe_call G__law_refused (hr.mono (by omega)) rfl T.m__law_refused T.F__law_refused.kp T.b__law_refused .nil pass0 (pa_cons (pe_op op_cat (pv 15) (pe_lst (pa_cons (pe_tup (pa_cons pe_str (pa_cons (pe_ix ix_list (pv 2) pe_int (fun _ _ => rfl)) pa_nil))) pa_nil))) pa_nil)) (pv 5) (nomark _)))))))))))))))))))))))))))), ?_⟩
  refine ⟨_, rfl, sr, cs, rfl, hsr, h63, fun st sc H1 s1 f1 g1 o1 => ?_⟩
  refine ⟨_, rfl, st, sc, 3, rfl, by decide, by decide, o1, fun nl ns H2 k2 o2 hnl0 n1 n2 hnl nlen nms => ⟨by show 1 ≤ sizeLine; decide, fun el hel => ⟨nl, el, _, _, rfl, rfl, by rw [upd_ne (ne_of_none hnl hel)]; exact hnl, upd_same, Nat.le_of_lt (small1000 (by rw [List.length_map]; show ns.length + 1 ≤ 1000; omega)), fun nm hnm => ?_⟩⟩⟩
  have o3 := (o2.new (o := .lst [V.str ""]) hel).new (o := .lst (ns.map V.str ++ [V.str ""])) hnm
  have k3 : Keep st H (upd (upd H2 el (.lst [V.str ""])) nm (.lst (ns.map V.str ++ [V.str ""]))) := ((keep_same s1).trans k2).trans ((Keep.new hel).trans (Keep.new hnm))
  have hN3 : (upd (upd H2 el (.lst [V.str ""])) nm (.lst (ns.map V.str ++ [V.str ""]))) nm = some (.lst ((ns ++ [("" : Str)]).map V.str)) := by rw [upd_same, str3]
  have nst : nm ≠ st := ((o2.new (o := .lst [V.str ""]) hel).ne hnm).1
  try dsimp only
  generalize upd (upd H2 el (.lst [V.str ""])) nm (.lst (ns.map V.str ++ [V.str ""])) = H3 at o3 k3 hN3 ⊢
  have l4 : (ns ++ [("" : Str)]).length = 4 := by rw [List.length_append]; show ns.length + 1 = 4; omega
  have sh4 : ∀ z ∈ ns ++ [("" : Str)], shS z := fun z hz => by
    rcases List.mem_append.mp hz with h | h
    · exact nm_sh (nms.good z h)
    · rw [List.mem_singleton.mp h]; exact mt_ok
  generalize ns ++ [("" : Str)] = N4 at hN3 l4 sh4
  refine ⟨_, rfl, st, sc, 2, rfl, by decide, by decide, o3, fun spo H4 sp0 sp1 k4 o4 _ => ?_⟩
  refine ⟨_, rfl, st, sc, 13, rfl, by decide, by decide, o4, fun at_ H5 at0 at1 k5 o5 _ => ?_⟩
  refine ⟨rfl, fun kl H6 s6 hkl0 hkl => ⟨kl, rfl, ⟨_, SqL.of hkl⟩, fun D hD => fiS_list kindsL V.str (fun _ => true) (fun k => .str (k ++ ("s" : Str))) (SqL.of hkl) rfl (by decide) hD ?_ ?_⟩⟩
  · rintro i k H7 hk s7 Yes No yes no
    exact ⟨rfl, tYes_of ⟨_, rfl, k, ("s" : Str), rfl, rfl, Nat.le_of_lt (small1000 (by have := kind_len k (List.mem_of_getElem? hk); omega)), yes rfl _ (Same.refl _)⟩⟩
  intro H7 s7 hl7
  have o7 := (o5.sm s6).sm s7
  have Dst : D ≠ st := ((o5.sm s6).ne hD).1
  have e7 : (kindsL.filter fun _ => true).map (fun k => V.str (k ++ ("s" : Str))) = wrongL.map V.str := rfl
  rw [e7] at hl7
  refine ⟨_, rfl, st, sc, 6, rfl, by decide, by decide, o7, fun wj H8 w0 w1 k8 o8 _ => ?_⟩
  obtain ⟨j', wr, hwr, rfl, hat⟩ := pick_at (L := wrongL) w0 w1
  obtain ⟨wr1, wr2⟩ := wrong_ok wr (List.mem_of_getElem? hwr)
  refine ⟨D, _, _, _, rfl, rfl, SqL.of (k8 _ _ Dst hl7), hat, ?_⟩
  refine ⟨_, rfl, st, sc, 2, rfl, by decide, by decide, o8, fun ast H9 a0 a1 k9 o9 _ => ?_⟩
  have k09 : Keep st H3 H9 := (k4.trans k5).trans ((keep_same (s6.trans s7)).trans (k8.trans k9))
  have hN9 := k09 _ _ nst hN3
  refine ⟨_, rfl, _, rfl, st, sc, nm, 12, N4, rfl, by decide, o9, hN9, nst, (fun e => by rw [e] at l4; cases l4), by omega, fun gl xs ps H10 k10 o10 hgl0 gl1 gl2 hgl hT few hall => ?_⟩
  have k0 : Keep st H H10 := k3.trans (k09.trans k10)
  have s10 : Same H H10 := fresh_same (Same.refl _) f1 k0
  have hN10 := k10 _ _ nst hN9
  have xl := prs_len hT
  have hsh : ∀ x ∈ ps, shP x := fun x hx => ⟨kinds_sh _ (hall x hx).1, sh4 _ (hall x hx).2⟩
  have hkd : ∀ x ∈ ps, x.1 ∈ kindsL := fun x hx => (hall x hx).1
  clear k3 k4 k5 k8 k9 k09 k10 o1 o2 o3 o4 o5 o7 o8 o9 hN3 hN9 hl7 hkl s6 s7 k2
  refine ⟨_, rfl, gl, xs, rfl, .inl (SqL.of hgl), fun hd hhd => ?_⟩
  have s11 := Same.new hhd (.lst xs)
  have hh : upd H10 hd (.lst xs) hd = some (.lst xs) := upd_same
  try dsimp only
  generalize upd H10 hd (.lst xs) = H11 at s11 hh ⊢
  refine ⟨fun σ' H' => ∃ (a : Addr) (L : List Pr), σ' = [some (.ref sr), some (.ref st), some (.ref nm), some (.int spo), some (.int at_), some (.str wr), some (.int ast), some (.ref gl), some (.ref hd), some (.ref a), none, none, none, none, none, none, none] ∧
    Same H11 H' ∧ VAt K H' T.c_Verdict a L ∧ IsV ps L, ?_, ?_⟩
  · refine ⟨_, rfl, rfl, _, rfl, ?_⟩
    cases hb : decide (V.int ast = V.int 1) with
    | true => exact if_true_of rfl ⟨_, rfl, gl, xs, rfl, .inl ⟨SqL.of (s11 _ _ hgl), fun t ht => mk_new (Same.refl _) (.inr ⟨_, SqT.of upd_same, TnAll.keep (TK.of_same (s11.trans (Same.new ht _))) hT⟩) (by omega) hsh hkd fun b N H' sN _ vN iN => ⟨b, N, rfl, (Same.new ht _).trans sN, vN, iN⟩⟩⟩
    | false => exact if_false_of rfl ⟨_, rfl, mk_new (Same.refl _) (.inl ⟨_, SqL.of hh, TnAll.keep (TK.of_same s11) hT⟩) (by omega) hsh hkd fun b N H' sN _ vN iN => ⟨b, N, rfl, sN, vN, iN⟩⟩
  rintro σ' H12 ⟨a, L, rfl, s12, hv, iv⟩
  have vok : Vok L := ⟨by have := iv.len; omega, fun x h => hsh x ((iv.mem x).mp h).1, fun x h => iv.kind h⟩
  have vfew := vok.few
  have fx : Fx K T.c_Verdict a nm gl L ps xs N4 H12 := ⟨hv, s12 _ _ (s11 _ _ hgl), s12 _ _ (s11 _ _ hN10), TnAll.keep (TK.of_same (s11.trans s12)) hT⟩
  have hh12 := s12 _ _ hh
  refine ⟨_, rfl, _, rfl, .list (ps.map pairD), .list (ps.map pairD), .lst (SqL.of hh12) fx.t.dp, .lst (SqL.of fx.g) fx.t.dp, (pairs_lay hsh).2, (pairs_lay hsh).2, _, rfl, ?_⟩
  show (if (!PyData.eqvAll (ps.map pairD) (ps.map pairD)) = true then _ else _)
  rw [pairs_eqv, decide_eq_true rfl]
  refine if_false_of rfl ?_
  refine ⟨_, rfl, .inl ⟨rfl, _, SqL.of hh12⟩, by show 2 ≤ sizeLine; decide, fun q1 hq1 => ⟨hd, xs, .ref q1, rfl, rfl, by rw [upd_ne (ne_of_none hh12 hq1)]; exact hh12, small1000 (by omega), ?_⟩⟩
  have f13 := fx.keep (l := xs) ((Keep.new (o := .tup [V.str "long", .str "other"]) hq1).trans (Keep.upd (o := .lst (xs ++ [.ref q1])))) hh12 (ne_of_none hgl hhd) (ne_of_none hN10 hhd)
  have s13 := own_same (o := .lst (xs ++ [.ref q1])) ((s10.trans (s11.trans s12)).trans (Same.new (o := .tup [V.str "long", .str "other"]) hq1)) (gone s10 hhd)
  clear fx
  try dsimp only
  generalize upd (upd H12 q1 (.tup [V.str "long", .str "other"])) hd (.lst (xs ++ [.ref q1])) = H13 at f13 s13 ⊢
  refine ⟨rfl, fun kl2 H14 s14 hk0 hk2 => ⟨_, rfl, kl2, gl, ps, rfl, hk2, ⟨xs, SqL.of (s14 _ _ f13.g), TnAll.keep (TK.of_same s14) f13.t⟩, by omega, hsh, fun du zs L2 H15 s15 hdu0 hdu hTd iv2 => ?_⟩⟩
  obtain rfl : L2 = L := iv2.uniq iv
  have f15 := f13.same (s14.trans s15)
  have s15' := s13.trans (s14.trans s15)
  have gdu : gl ≠ du := ne_of_none (s14 _ _ f13.g) hdu0
  have zl := prs_len hTd
  obtain ⟨dx, tt, ha, _⟩ := id f15.v
  refine ⟨_, rfl, a, dx, _, rfl, ha, rfl, a, L2, rfl, f15.v, fun tl ys H16 s16 tl0 htl hTt => ?_⟩
  refine ⟨_, rfl, .ref tl, .ty "list", .type "list", .type "list", true, rfl, .ty _, .base (.lst htl), kit_ty (by decide +kernel), true, rfl, if_false_of rfl ?_⟩
  refine ⟨_, rfl, _, rfl, .list (L2.map pairD), .list (L2.map pairD), .lst (SqL.of htl) hTt.dp, .lst (SqL.of (s16 _ _ hdu)) (TnAll.keep (TK.of_same s16) hTd).dp, (pairs_lay vok.sh).2, (pairs_lay vok.sh).2, _, rfl, ?_⟩
  show (if (!PyData.eqvAll (L2.map pairD) (L2.map pairD)) = true then _ else _)
  rw [pairs_eqv, decide_eq_true rfl]
  refine if_false_of rfl ?_
  have yl := prs_len hTt
  refine ⟨_, rfl, .inl ⟨rfl, _, SqL.of htl⟩, by show 2 ≤ sizeLine; decide, fun q2 hq2 => ⟨tl, ys, .ref q2, rfl, rfl, by rw [upd_ne (ne_of_none htl hq2)]; exact htl, small1000 (by omega), ?_⟩⟩
  have kB : Keep tl H16 (upd (upd H16 q2 (.tup [V.str "mixed", .str "other"])) tl (.lst (ys ++ [.ref q2]))) := (Keep.new hq2).trans Keep.upd
  have f17 := (f15.same s16).keep (l := ys) kB htl (ne_of_none f15.g tl0) (ne_of_none f15.n tl0)
  have hdu17 := kB _ _ (ne_of_none hdu tl0) (s16 _ _ hdu)
  have hTd17 := TnAll.keep (TK.of_keep kB (by rw [htl]; trivial)) (TnAll.keep (TK.of_same s16) hTd)
  have s17 := own_same (o := .lst (ys ++ [.ref q2])) ((s15'.trans s16).trans (Same.new (o := .tup [V.str "mixed", .str "other"]) hq2)) (gone s15' tl0)
  clear kB
  try dsimp only
  generalize upd (upd H16 q2 (.tup [V.str "mixed", .str "other"])) tl (.lst (ys ++ [.ref q2])) = H17 at f17 hdu17 hTd17 s17 ⊢
  refine ⟨rfl, fun kl3 H18 s18 _ hk3 => ⟨kl3, rfl, ⟨_, SqL.of hk3⟩, fun D3 hD3 => fiS_list kindsL V.str (fun k => decide (k ∈ L2.map (·.1))) V.str (SqL.of hk3) rfl (by decide) hD3 ?_ ?_⟩⟩
  · rintro i k H19 hk s19 Yes No yes no
    have hTd19 := TnAll.keep (TK.of_same (s18.trans s19)) hTd17
    refine ⟨rfl, _, rfl, _, rfl, du, rfl, ⟨_, SqL.of ((s18.trans s19) _ _ hdu17)⟩, fun D4 hD4 => fiS_list (zs.zip L2) Prod.fst (fun _ => true) (fun z => .str z.2.1) (SqL.of ((s18.trans s19) _ _ hdu17)) (zip_left zl) (by rw [List.length_zip]; omega) hD4 ?_ ?_⟩
    · rintro i2 c H20 hc s20 Yes2 No2 yes2 no2
      obtain ⟨c1, c2⟩ := List.getElem?_zip_eq_some.mp hc
      obtain ⟨y, b2, hy, e2, hty, hb2⟩ := prs_at hTd19 c1
      rw [c2] at hy
      cases hy
      rw [e2]
      exact ⟨rfl, tYes_of ⟨_, rfl, b2, _, 0, _, rfl, rfl, SqT.same s20 hb2, rfl, yes2 rfl _ (Same.refl _)⟩⟩
    · intro H20 s20 hl4
      have el : ((zs.zip L2).filter fun _ => true).map (fun z => V.str z.2.1) = (L2.map (·.1)).map V.str := by
        rw [zip_right (fun _ : Pr => true) (fun y : Pr => V.str y.1) zl, Td.filter_all, List.map_map]
        rfl
      rw [el] at hl4
      refine ⟨D4, (L2.map (·.1)).map V.str, rfl, .inl (SqL.of hl4), rfl, Td.flat_strs _, _, rfl, ?_⟩
      show (if inV (.str k) ((L2.map (·.1)).map V.str) = true then _ else _)
      rw [inV_strs]
      cases h : decide (k ∈ L2.map (·.1)) with
      | true => exact if_true_of rfl ⟨_, rfl, yes h _ s20⟩
      | false => exact if_false_of rfl (no h _ s20)
  intro H19 s19 hl3
  rw [kinds_hd] at hl3
  have f19 := f17.same (s18.trans s19)
  have hdu19 := (s18.trans s19) _ _ hdu17
  have hTd19 := TnAll.keep (TK.of_same (s18.trans s19)) hTd17
  have s19' := s17.trans (s18.trans s19)
  clear f17 hdu17 hTd17 f15
  obtain ⟨dx2, tt2, ha2, _⟩ := id f19.v
  refine ⟨_, rfl, a, dx2, _, rfl, ha2, rfl, a, L2, rfl, f19.v, by omega, fun tk H20 s20 tk0 htk => ?_⟩
  refine ⟨_, rfl, .ref tk, .ty "list", .type "list", .type "list", true, rfl, .ty _, .base (.lst htk), kit_ty (by decide +kernel), true, rfl, if_false_of rfl ?_⟩
  refine ⟨_, rfl, _, rfl, .list ((kindsOf L2).map .str), .list ((kindsOf L2).map .str), .lst (SqL.of htk) (DpAll.strs _), .lst (SqL.of (s20 _ _ hl3)) (DpAll.strs _), (texts_lay kof_sh).2, (texts_lay kof_sh).2, _, rfl, ?_⟩
  show (if (!PyData.eqvAll ((kindsOf L2).map PyData.str) ((kindsOf L2).map PyData.str)) = true then _ else _)
  rw [texts_eqv]
  refine if_false_of rfl ?_
  have kl6 : (kindsOf L2).length ≤ 6 := List.length_filter_le _ _
  refine ⟨_, rfl, .inl ⟨rfl, _, SqL.of htk⟩, tk, _, .str "other", rfl, rfl, htk, small1000 (by rw [List.length_map]; omega), ?_⟩
  have kC : Keep tk H20 (upd H20 tk (.lst ((kindsOf L2).map V.str ++ [.str "other"]))) := Keep.upd
  have f21 := (f19.same s20).keep kC htk (ne_of_none f19.g tk0) (ne_of_none f19.n tk0)
  have hdu21 := kC _ _ (ne_of_none hdu19 tk0) (s20 _ _ hdu19)
  have hD21 := kC _ _ (ne_of_none hl3 tk0) (s20 _ _ hl3)
  have hTd21 := TnAll.keep (TK.of_keep kC (by rw [htk]; trivial)) (TnAll.keep (TK.of_same s20) hTd19)
  have s21 := own_same (o := .lst ((kindsOf L2).map V.str ++ [.str "other"])) (s19'.trans s20) (gone s19' tk0)
  clear kC f19 hdu19 hl3 hTd19
  try dsimp only
  generalize upd H20 tk (.lst ((kindsOf L2).map V.str ++ [.str "other"])) = H21 at f21 hdu21 hD21 hTd21 s21 ⊢
  obtain ⟨dx3, tt3, ha3, _⟩ := id f21.v
  refine ⟨_, rfl, a, dx3, _, rfl, ha3, rfl, a, L2, rfl, f21.v, fun l3 ys3 H22 s22 _ hl3 hT3 => ⟨_, rfl, .list (L2.map pairD), .list (L2.map pairD), .lst (SqL.of hl3) hT3.dp, .lst (SqL.of (s22 _ _ hdu21)) (TnAll.keep (TK.of_same s22) hTd21).dp, (pairs_lay vok.sh).2, (pairs_lay vok.sh).2, _, rfl, ?_⟩⟩
  show (if (!PyData.eqvAll (L2.map pairD) (L2.map pairD)) = true then _ else _)
  rw [pairs_eqv, decide_eq_true rfl]
  refine if_false_of rfl ?_
  refine ⟨_, rfl, .ref a, rfl, a, dx3, _, rfl, s22 _ _ ha3, a, L2, rfl, f21.v.same s22, fun H23 s23 => ⟨_, rfl, by omega, by omega, _, rfl, .ref du, _, rfl, .inl ⟨zs, SqL.of ((s22.trans s23) _ _ hdu21), rfl⟩, rfl, _, rfl, ?_⟩⟩
  rw [zl, decide_eq_true rfl]
  refine if_false_of rfl ?_
  have eb : (((L2.length : Nat) : Int) != 0) = decide ((0 : Int) < ((L2.length : Nat) : Int)) := by
    by_cases h : L2.length = 0
    · rw [h]; rfl
    · rw [decide_eq_true (by omega)]
      have : ((L2.length : Nat) : Int) ≠ 0 := by omega
      simpa using this
  refine ⟨_, rfl, .ref a, rfl, a, dx3, _, rfl, (s22.trans s23) _ _ ha3, a, L2, rfl, f21.v.same (s22.trans s23), fun H24 s24 => ⟨_, rfl, by omega, by omega, _, rfl, .ref du, _, rfl, .inl ⟨zs, SqL.of (((s22.trans s23).trans s24) _ _ hdu21), rfl⟩, _, _, rfl, rfl, rfl, _, rfl, ?_⟩⟩
  rw [zl, eb, decide_eq_true rfl]
  refine if_false_of rfl ?_
  have s2124 := (s22.trans s23).trans s24
  have f24 := f21.same s2124
  have hdu24 := s2124 _ _ hdu21
  have hD24 := s2124 _ _ hD21
  have hTd24 := TnAll.keep (TK.of_same s2124) hTd21
  have s24' := s21.trans s2124
  clear f21 hdu21 hD21 hTd21 s21
  refine ⟨rfl, fun kl4 H25 s25 _ hk4 => ⟨_, rfl, by show 1 ≤ sizeLine; decide, fun e1 he1 => ⟨kl4, e1, _, _, rfl, rfl, by rw [upd_ne (ne_of_none hk4 he1)]; exact hk4, upd_same, by show 6 + 1 ≤ sizeLine; decide, fun kk hkk => ⟨kk, rfl, ⟨_, SqL.of upd_same⟩, ?_⟩⟩⟩⟩
  have sB : Same H24 (upd (upd H25 e1 (.lst [V.str wr])) kk (.lst (kindsL.map V.str ++ [V.str wr]))) := (s25.trans (Same.new he1 _)).trans (Same.new hkk _)
  have hkB : (upd (upd H25 e1 (.lst [V.str wr])) kk (.lst (kindsL.map V.str ++ [V.str wr]))) kk = some (.lst ((kindsL ++ [wr]).map V.str)) := by rw [upd_same, str3]
  generalize upd (upd H25 e1 (.lst [V.str wr])) kk (.lst (kindsL.map V.str ++ [V.str wr])) = HB at sB hkB ⊢
  have shk : ∀ z ∈ kindsL ++ [wr], shS z := fun z hz => by
    rcases List.mem_append.mp hz with h | h
    · exact kinds_sh z h
    · rw [List.mem_singleton.mp h]; exact wr1
  refine for_list (K := K) (a := kk) (xs := (kindsL ++ [wr]).map V.str) (fun i σ H' => ∃ (v13 v14 : Option V), σ = [some (.ref sr), some (.ref st), some (.ref nm), some (.int spo), some (.int at_), some (.str wr), some (.int ast), some (.ref gl), some (.ref hd), some (.ref a), some (.ref du), some (.ref tk), some (.ref D3), v13, v14, none, none] ∧ Same HB H')
    ⟨none, none, rfl, Same.refl _⟩ (fun i σ H' _ ⟨_, _, _, sx⟩ => SqL.of (sx _ _ hkB)) ?_ ?_
  · rintro i x σ H26 hx ⟨v13, v14, rfl, s26⟩
    rw [List.getElem?_map] at hx
    obtain ⟨k, hki, rfl⟩ := Option.map_eq_some_iff.mp hx
    have shk1 := shk k (List.mem_of_getElem? hki)
    have n26 := (sB.trans s26) _ _ f24.n
    refine ⟨_, rfl, by show 1 ≤ sizeLine; decide, fun e2 he2 => ⟨nm, e2, _, _, rfl, rfl, by rw [upd_ne (ne_of_none n26 he2)]; exact n26, upd_same, Nat.le_of_lt (small1000 (by rw [List.length_map]; show N4.length + 1 ≤ 1000; omega)), fun mm hmm => ⟨mm, rfl, ⟨_, SqL.of upd_same⟩, ?_⟩⟩⟩
    have sC : Same H26 (upd (upd H26 e2 (.lst [V.str "otherones"])) mm (.lst (N4.map V.str ++ [V.str "otherones"]))) := (Same.new he2 _).trans (Same.new hmm _)
    have hkC : (upd (upd H26 e2 (.lst [V.str "otherones"])) mm (.lst (N4.map V.str ++ [V.str "otherones"]))) mm = some (.lst ((N4 ++ [("otherones" : Str)]).map V.str)) := by rw [upd_same, str3]
    have ex : N4.map V.str ++ [V.str "otherones"] = (N4 ++ [("otherones" : Str)]).map V.str := str3 _ _
    generalize upd (upd H26 e2 (.lst [V.str "otherones"])) mm (.lst (N4.map V.str ++ [V.str "otherones"])) = HC at sC hkC ⊢
    refine for_list (K := K) (a := mm) (xs := (N4 ++ [("otherones" : Str)]).map V.str) (fun i σ H' => ∃ (v14 : Option V), σ = [some (.ref sr), some (.ref st), some (.ref nm), some (.int spo), some (.int at_), some (.str wr), some (.int ast), some (.ref gl), some (.ref hd), some (.ref a), some (.ref du), some (.ref tk), some (.ref D3), some (.str k), v14, none, none] ∧ Same HC H')
      ⟨v14, rfl, Same.refl _⟩ (fun i σ H' _ ⟨_, _, sx⟩ => SqL.of (sx _ _ hkC)) ?_ ?_
    · rintro j x σ H27 hx ⟨v14, rfl, s27⟩
      rw [List.getElem?_map] at hx
      obtain ⟨n, hnj, rfl⟩ := Option.map_eq_some_iff.mp hx
      have shn : shS n := by
        rcases List.mem_append.mp (List.mem_of_getElem? hnj) with h | h
        · exact sh4 n h
        · rw [List.mem_singleton.mp h]; exact oth_ok.2
      have s27' := ((sB.trans s26).trans sC).trans s27
      have f27 := f24.same s27'
      obtain ⟨dx4, tt4, ha4, _⟩ := id f27.v
      have la := pair_lay (x := (k, n)) ⟨shk1, shn⟩
      have shp : SeqAt.shaped (pairD (k, n)) = true := shape_of la.1 (by have := la.2; omega)
      refine ⟨_, rfl, _, rfl, by show 2 ≤ sizeLine; decide, fun t1 ht1 => ⟨_, rfl, a, dx4, _, rfl, Same.new ht1 _ _ _ ha4, a, .ref t1, L2, (k, n), rfl, f27.v.same (Same.new ht1 _), vok, Tn.new (ds := [.str k, .str n]) (TnAll.strs [k, n]) ht1, ⟨shk1, shn⟩, fun H28 s28 => ⟨_, rfl, _, rfl, _, rfl, by show 2 ≤ sizeLine; decide, fun t2 ht2 => ⟨_, rfl, pairD (k, n), L2.map pairD, (Tn.new (ds := [.str k, .str n]) (TnAll.strs [k, n]) ht2).dp, .lst (SqL.of ((s27'.trans ((Same.new ht1 _).trans (s28.trans (Same.new ht2 _)))) _ _ hdu24)) (TnAll.keep (TK.of_same (s27'.trans ((Same.new ht1 _).trans (s28.trans (Same.new ht2 _))))) hTd24).dp, shp, (pairs_lay vok.sh).2, rfl, _, rfl, ?_⟩⟩⟩⟩
      have e5 : (!decide (V.bl (decide ((k, n) ∈ L2)) = V.bl (hasD (pairD (k, n)) (L2.map pairD)))) = false := by
        rw [show hasD (pairD (k, n)) (L2.map pairD) = decide ((k, n) ∈ L2) from pairs_any (k, n) L2, decide_eq_true rfl]
        rfl
      exact if_false_of e5 ⟨some (.str n), rfl, s27.trans ((Same.new ht1 _).trans (s28.trans (Same.new ht2 _)))⟩
    · rintro σ H27 ⟨v14, rfl, s27⟩
      exact ⟨_, _, rfl, (s26.trans sC).trans s27⟩
  rintro σ H26 ⟨v13, v14, rfl, s26⟩
  have sE := sB.trans s26
  have f26 := f24.same sE
  have hD26 := sE _ _ hD24
  have s26' := s24'.trans sE
  obtain ⟨dx5, tt5, ha5, _⟩ := id f26.v
  refine ⟨_, rfl, rfl, _, rfl, ?_⟩
  cases h0 : decide (V.int spo = V.int 0) with
  | true =>
    refine if_true_of rfl ⟨_, rfl, a, dx5, _, rfl, ha5, rfl, a, L2, rfl, f26.v, by omega, fun l H s l0 hl => ⟨_, rfl, .list ((kindsOf L2).map .str), .list ((kindsOf L2).map .str), .lst (SqL.of hl) (DpAll.strs _), .lst (SqL.of (s _ _ hD26)) (DpAll.strs _), (texts_lay kof_sh).2, (texts_lay kof_sh).2, ?_⟩⟩
    show Q (.bl (PyData.eqvAll ((kindsOf L2).map PyData.str) ((kindsOf L2).map PyData.str))) H
    rw [texts_eqv]
    exact q _ (s26'.trans s)
  | false =>
  refine if_false_of rfl ?_
  refine ⟨_, rfl, gl, xs, rfl, .inl (SqL.of f26.g), fun bd hbd => ?_⟩
  obtain ⟨n0, n1, N2, rfl⟩ : ∃ n0 n1 N2, N4 = n0 :: n1 :: N2 := by
    match N4, l4 with
    | n0 :: n1 :: N2, _ => exact ⟨n0, n1, N2, rfl⟩
  have hat0 : atI ((n0 :: n1 :: N2).map V.str) ((0 : Nat) : Int) = some (.str n0) := atI_nat rfl
  have hat1 : atI ((n0 :: n1 :: N2).map V.str) ((1 : Nat) : Int) = some (.str n1) := atI_nat rfl
  have xs26 : ∀ {H' : Hp}, Same H26 H' → H' nm = some (.lst ((n0 :: n1 :: N2).map V.str)) := fun s => s _ _ f26.n
  have sF := Same.new hbd (.lst xs)
  have hb0 : upd H26 bd (.lst xs) bd = some (.lst xs) := upd_same
  generalize upd H26 bd (.lst xs) = H30 at sF hb0 ⊢
  refine ⟨_, rfl, .inl ⟨rfl, _, SqL.of hb0⟩, _, rfl, _, rfl, _, rfl, nm, _, 0, .str n0, rfl, rfl, SqL.of (xs26 sF), hat0, by show 2 ≤ sizeLine; decide, fun t ht => ⟨bd, xs, at_, .ref t, rfl, rfl, by rw [upd_ne (ne_of_none hb0 ht)]; exact hb0, small1000 (by omega), at0, by omega, ?_⟩⟩
  have nbd : nm ≠ bd := ne_of_none f26.n hbd
  have kD : Keep bd H30 (upd (upd H30 t (.tup [V.str wr, .str n0])) bd (.lst (xs.take at_.toNat ++ [.ref t] ++ xs.drop at_.toNat))) := (Keep.new ht).trans Keep.upd
  have hN31 := kD _ _ nbd (xs26 sF)
  have tkD : TK H30 (upd (upd H30 t (.tup [V.str wr, .str n0])) bd (.lst (xs.take at_.toNat ++ [.ref t] ++ xs.drop at_.toNat))) := TK.of_keep kD (by rw [hb0]; trivial)
  have hb1 : upd (upd H30 t (.tup [V.str wr, .str n0])) bd (.lst (xs.take at_.toNat ++ [.ref t] ++ xs.drop at_.toNat)) bd = some (.lst (xs.take at_.toNat ++ [.ref t] ++ xs.drop at_.toNat)) := upd_same
  have hT30 := TnAll.keep (TK.of_same sF) f26.t
  have ht31 : Tn K (upd (upd H30 t (.tup [V.str wr, .str n0])) bd (.lst (xs.take at_.toNat ++ [.ref t] ++ xs.drop at_.toNat))) (.ref t) (pairD (wr, n0)) :=
    Tn.keep (TK.upd (by rw [upd_ne (ne_of_none hb0 ht), hb0]; trivial)) (Tn.new (ds := [.str wr, .str n0]) (TnAll.strs [wr, n0]) ht)
  have hT31 := TnAll.append (TnAll.append (tn_take at_.toNat (TnAll.keep tkD hT30)) (TnAll.one ht31)) (tn_drop at_.toNat (TnAll.keep tkD hT30))
  have s31 : Same H (upd (upd H30 t (.tup [V.str wr, .str n0])) bd (.lst (xs.take at_.toNat ++ [.ref t] ++ xs.drop at_.toNat))) := own_same ((s26'.trans sF).trans (Same.new ht _)) (gone s26' hbd)
  clear kD tkD ht31
  try dsimp only
  generalize hz : xs.take at_.toNat ++ [V.ref t] ++ xs.drop at_.toNat = bs at hN31 hb1 hT31 s31 ⊢
  generalize upd (upd H30 t (.tup [V.str wr, .str n0])) bd (.lst bs) = H31 at hN31 hb1 hT31 s31 ⊢
  have bl : bs.length ≤ 14 := by
    rw [← hz, List.length_append, List.length_append, List.length_take, List.length_drop]
    show min at_.toNat xs.length + 1 + (xs.length - at_.toNat) ≤ 14
    omega
  refine ⟨_, rfl, _, rfl, nm, _, 1, .str n1, rfl, rfl, SqL.of hN31, hat1, by show 2 ≤ sizeLine; decide, fun t2 ht2 => ⟨by show 1 ≤ sizeLine; decide, fun e3 he3 => ⟨bd, e3, bs, [.ref t2], rfl, rfl, ?_, upd_same, Nat.le_of_lt (small1000 (by show bs.length + 1 ≤ 1000; omega)), fun cl hcl => ?_⟩⟩⟩
  · rw [upd_ne (ne_of_none (Same.new ht2 _ _ _ hb1) he3)]; exact Same.new ht2 _ _ _ hb1
  have sG : Same H31 (upd (upd (upd H31 t2 (.tup [V.str "other", .str n1])) e3 (.lst [.ref t2])) cl (.lst (bs ++ [.ref t2]))) := ((Same.new ht2 _).trans (Same.new he3 _)).trans (Same.new hcl _)
  have ht33 : Tn K (upd (upd (upd H31 t2 (.tup [V.str "other", .str n1])) e3 (.lst [.ref t2])) cl (.lst (bs ++ [.ref t2]))) (.ref t2) (pairD ("other", n1)) :=
    Tn.keep (TK.of_same ((Same.new he3 _).trans (Same.new hcl _))) (Tn.new (ds := [.str "other", .str n1]) (TnAll.strs [("other" : Str), n1]) ht2)
  have hT33 := TnAll.append (TnAll.keep (TK.of_same sG) hT31) (TnAll.one ht33)
  have eBP : List.take at_.toNat (ps.map pairD) ++ [pairD (wr, n0)] ++ List.drop at_.toNat (ps.map pairD) ++ [pairD ("other", n1)] = (ps.take at_.toNat ++ (wr, n0) :: (ps.drop at_.toNat ++ [(("other" : Str), n1)])).map pairD := by
    simp [List.map_take, List.map_drop]
  rw [eBP] at hT33
  have hbad : badK (ps.take at_.toNat ++ (wr, n0) :: (ps.drop at_.toNat ++ [(("other" : Str), n1)])) = some wr := badK_in (y := (wr, n0)) (fun x hx => hkd x (List.mem_of_mem_take hx)) wr2
  refine ⟨cl, _, rfl, ⟨_, SqL.of upd_same, hT33⟩, ?_, fun x hx => ?_, fun H34 s34 => ?_⟩
  · rw [List.length_append, List.length_cons, List.length_append, List.length_take, List.length_drop]
    show min at_.toNat ps.length + (ps.length - at_.toNat + 1 + 1) ≤ 60
    omega
  · have w0 : shP (wr, n0) := ⟨wr1, sh4 n0 (List.mem_cons_self ..)⟩
    have w1 : shP (("other" : Str), n1) := ⟨oth_ok.1, sh4 n1 (List.mem_cons_of_mem _ (List.mem_cons_self ..))⟩
    rcases List.mem_append.mp hx with h | h
    · exact hsh x (List.mem_of_mem_take h)
    · rcases List.mem_cons.mp h with h | h
      · rw [h]; exact w0
      · rcases List.mem_append.mp h with h | h
        · exact hsh x (List.mem_of_mem_drop h)
        · rw [List.mem_singleton.mp h]; exact w1
  · rw [hbad]
    refine ⟨_, rfl, rfl, ?_⟩
    rw [decide_eq_true rfl]
    exact q _ ((s31.trans sG).trans s34)
end
end K50
namespace K50
open PySem PySem.Spec PyProof.Rows L2 Td
/-- ordered, then held against the verdict -/
theorem ord_is {K : PySem.W.Frag} {C kl pl c : Addr} {H1 : Hp} {qs N : List Pr} {Q : VK} (hk : H1 kl = some (.lst (kindsL.map V.str))) (hp : PrsL K H1 pl qs) (few : qs.length ≤ 30) (sh : ∀ x ∈ qs, shP x) (hc : VAt K H1 C c N) (iN : IsV qs N) (q : ∀ H', Same H1 H' → Q (.bl true) H') :
    spOrdered K [.ref kl, .ref pl] H1 (fun v H2 => spIs K C [.ref c, v] H2 Q E0) E0 :=
  ⟨kl, pl, qs, rfl, hk, hp, few, sh, fun l xs L H' s _ hl hT iv => by
    obtain rfl : L = N := iv.uniq iN
    exact ⟨c, l, L, rfl, hc.same s, ⟨xs, SqL.of hl, hT⟩, ⟨Nat.le_trans iN.len few, fun x h => sh x ((iN.mem x).mp h).1, fun x h => iN.kind h⟩, iN.asc, fun H2 s2 => q H2 (s.trans s2)⟩⟩
theorem Vok.of {qs N : List Pr} (iv : IsV qs N) (few : qs.length ≤ 30) (sh : ∀ x ∈ qs, shP x) : Vok N := ⟨Nat.le_trans iv.len few, fun x h => sh x ((iv.mem x).mp h).1, fun x h => iv.kind h⟩
/-- two verdicts and what they were made of -/
structure Gx (K : PySem.W.Frag) (C a b kl ol pl sm : Addr) (L M one other : List Pr) (xo xp : List V) (ks : List Str) (H : Hp) : Prop where
  v : VAt K H C a L
  w : VAt K H C b M
  k : H kl = some (.lst (kindsL.map V.str))
  o : H ol = some (.lst xo)
  to : TnAll K H xo (one.map pairD)
  p : H pl = some (.lst xp)
  tp : TnAll K H xp (other.map pairD)
  s : H sm = some (.lst (ks.map V.str))
theorem Gx.same {K : PySem.W.Frag} {C a b kl ol pl sm : Addr} {L M one other : List Pr} {xo xp : List V} {ks : List Str} {H H' : Hp} (s : Same H H') (g : Gx K C a b kl ol pl sm L M one other xo xp ks H) : Gx K C a b kl ol pl sm L M one other xo xp ks H' :=
  ⟨g.v.same s, g.w.same s, s _ _ g.k, s _ _ g.o, TnAll.keep (TK.of_same s) g.to, s _ _ g.p, TnAll.keep (TK.of_same s) g.tp, s _ _ g.s⟩
def spLaw (K : PySem.W.Frag) : Sp := fun vs H Q _ => ∃ (a : Addr) (ns : List Int), vs = [.ref a] ∧ SqL K H a (ns.map V.int) ∧ ns.length ≤ 63 ∧ ∀ H', Q (.bl true) H'
section
variable {P : Program} {w : World} {K : PySem.W.Frag} {mg : Str → Option Value} {base : Heap}
theorem ok_second_part (T : Tops w K mg)
    (G__law_state : FnOk P w K mg base CX0 1 T.a__law_state T.d__law_state ["_law_script"] (spState K))
    (G__law_draw : FnOk P w K mg base CX0 1 T.a__law_draw T.d__law_draw ["_law_state_here", "_law_many"] spDraw)
    (G__law_names : FnOk P w K mg base CX0 2 T.a__law_names T.d__law_names ["_law_state_here", "_law_many"] spNames)
    (G__law_kinds : FnOk P w K mg base CX0 1 T.a__law_kinds T.d__law_kinds [] spKindsL)
    (G__law_pairs : FnOk P w K mg base CX0 2 T.a__law_pairs T.d__law_pairs ["_law_state_here", "_law_names_here", "_law_most_pairs"] (spPairsL K))
    (G__law_ordered : FnOk P w K mg base CX0 1 T.a__law_ordered T.d__law_ordered ["_law_kinds_here", "_law_pairs_here"] (spOrdered K))
    (G__law_is : FnOk P w K mg base CX0 7 T.a__law_is T.d__law_is ["_law_verdict", "_law_due"] (spIs K T.c_Verdict))
    (G_Verdict_only : FnOk P w K mg base CX0 7 T.a_Verdict_only T.d_Verdict_only ["self", "kinds"] (spOnly K T.c_Verdict))
    (G_Verdict_or : FnOk P w K mg base CX0 7 T.a_Verdict_or T.d_Verdict_or ["self", "other"] (spOr2 K T.c_Verdict))
    (G_Verdict_and : FnOk P w K mg base CX0 7 T.a_Verdict_and T.d_Verdict_and ["self", "other"] (spAnd2 K T.c_Verdict))
    (G_Verdict_sub : FnOk P w K mg base CX0 7 T.a_Verdict_sub T.d_Verdict_sub ["self", "other"] (spSub2 K T.c_Verdict))
    (G_Verdict_eq : FnOk P w K mg base CX0 1 T.a_Verdict_eq T.d_Verdict_eq ["self", "other"] (spEqV K T.c_Verdict))
    (G_Verdict_init : FnOk P w K mg base CX0 5 T.a_Verdict_init T.d_Verdict_init ["self", "pairs"] (spVerd0 K T.c_Verdict)) :
    FnOk P w K mg base CX0 9 T.a__law_second_part T.d__law_second_part ["_law_script"] (spPart K) := by
  refine T.F__law_second_part.ok sc_law_second_part (fun vs H Q E h => ?_) (fun cdv A outer s H vs Q E hr h => ?_)
  · obtain ⟨a, ns, rfl, _⟩ := h; rfl
  obtain ⟨sr, cs, rfl, hsr, h63, q⟩ := h
  refine ⟨_, (pss_cons (ps_set (i := 1) sc_law_second_part.nd rfl (Or.inr rfl) (pe_call G__law_state (hr.mono (by omega)) rfl T.m__law_state T.F__law_state.kp T.b__law_state .nil pass0 (pa_cons (pv 0) pa_nil)))
    (pss_cons (ps_set (i := 2) sc_law_second_part.nd rfl (Or.inl rfl) (pe_op op_cat (pe_call G__law_names (hr.mono (by omega)) rfl T.m__law_names T.F__law_names.kp T.b__law_names .nil pass0 (pa_cons (pv 1) (pa_cons pe_int pa_nil))) (pe_lst (pa_cons pe_str pa_nil))))
    (pss_cons (ps_set (i := 3) sc_law_second_part.nd rfl (Or.inl rfl) (pe_call G__law_pairs (hr.mono (by omega)) rfl T.m__law_pairs T.F__law_pairs.kp T.b__law_pairs .nil pass0 (pa_cons (pv 1) (pa_cons (pv 2) (pa_cons pe_int pa_nil)))))
    (pss_cons (ps_set (i := 4) sc_law_second_part.nd rfl (Or.inr rfl) (pe_call G__law_pairs (hr.mono (by omega)) rfl T.m__law_pairs T.F__law_pairs.kp T.b__law_pairs .nil pass0 (pa_cons (pv 1) (pa_cons (pv 2) (pa_cons pe_int pa_nil)))))
    (pss_cons (ps_set (i := 5) sc_law_second_part.nd rfl (Or.inr rfl) (pe_call0 G__law_kinds (hr.mono (by omega)) rfl T.m__law_kinds T.F__law_kinds.kp T.b__law_kinds .nil pass0))
    (pss_cons (ps_set (i := 6) sc_law_second_part.nd rfl (Or.inr rfl) (pe_lc (own := [(("_law_turn" : Str), 10)]) (wi := (iRng1 (tCons (tCall spDraw [] E0 (tCons (tVar 1) (tCons (tC (.int 7)) tNil))) tNil))) (g := gName 10) (tt := tYes) (te := (tOp (rIxL K) (tVar 5) (tCall spDraw [] E0 (tCons (tVar 1) (tCons (tC (.int 6)) tNil))))) rfl sc_law_second_part.nd (pi_range1 rfl T.z_range (pa_cons (pe_call G__law_draw (hr.mono (by omega)) rfl T.m__law_draw T.F__law_draw.kp T.b__law_draw .nil pass0 (pa_cons (pv 1) (pa_cons pe_int pa_nil))) pa_nil)) (blkOk_by (own := [(("_law_turn" : Str), 10)]) (N := N_law_second_part) (sc := defScope s_law_second_part) (by decide +kernel)) (fun _ _ _ _ _ => (pg_name (i := 10) sc_law_second_part.nd rfl (Or.inl rfl))) (fun _ _ _ _ _ => pts_nil) (fun _ _ _ _ _ => (pe_ix (r := (rIxL K)) ix_list (pv 5) (pe_call G__law_draw (hr.mono (by omega)) rfl T.m__law_draw T.F__law_draw.kp T.b__law_draw .nil pass0 (pa_cons (pv 1) (pa_cons pe_int pa_nil))) (fun _ _ => rfl)))))
    (pss_cons (ps_set (i := 7) sc_law_second_part.nd rfl (Or.inl rfl) (pe_make T.k_Verdict G_Verdict_init (hr.mono (by omega)) rfl T.m_Verdict T.b_Verdict_init .nil pass0 (pa_cons (pv 3) pa_nil)))
    (pss_cons (ps_set (i := 8) sc_law_second_part.nd rfl (Or.inl rfl) (pe_make T.k_Verdict G_Verdict_init (hr.mono (by omega)) rfl T.m_Verdict T.b_Verdict_init .nil pass0 (pa_cons (pv 4) pa_nil)))
    (pss_cons (ps_if (pt_not (pt_val (pe_call G__law_is (hr.mono (by omega)) rfl T.m__law_is T.F__law_is.kp T.b__law_is .nil pass0 (pa_cons (pe_op (op_own2 (op := .BitOr) G_Verdict_or T.xo_Verdict T.xfo_Verdict T.xm_Verdict T.b_Verdict_or (hr.mono (by omega))) (pv 7) (pv 8)) (pa_cons (pe_call G__law_ordered (hr.mono (by omega)) rfl T.m__law_ordered T.F__law_ordered.kp T.b__law_ordered .nil pass0 (pa_cons (pv 5) (pa_cons (pe_op op_cat (pv 3) (pv 4)) pa_nil))) pa_nil))))) (pss_one (ps_ret pe_bl)) pss_nil)
    (pss_cons (ps_if (pt_not (pt_val (pe_call G__law_is (hr.mono (by omega)) rfl T.m__law_is T.F__law_is.kp T.b__law_is .nil pass0 (pa_cons (pe_op (op_own2 (op := .BitAnd) G_Verdict_and T.xa_Verdict T.xfa_Verdict T.xm_Verdict T.b_Verdict_and (hr.mono (by omega))) (pv 7) (pv 8)) (pa_cons (pe_call G__law_ordered (hr.mono (by omega)) rfl T.m__law_ordered T.F__law_ordered.kp T.b__law_ordered .nil pass0 (pa_cons (pv 5) (pa_cons (pe_lc (own := [(("_law_pair" : Str), 11)]) (wi := (iList K (tVar 3))) (g := gName 11) (tt := (tTest (tOp (rInDL K false) (tVar 11) (tVar 4)))) (te := (tVar 11)) rfl sc_law_second_part.nd (pi_list (pv 3)) (blkOk_by (own := [(("_law_pair" : Str), 11)]) (N := N_law_second_part) (sc := defScope s_law_second_part) (by decide +kernel)) (fun _ _ _ _ _ => (pg_name (i := 11) sc_law_second_part.nd rfl (Or.inl rfl))) (fun _ _ _ _ _ => (pts_one (pt_cmpR (op_inDL (units65 hr)) (pv 11) (pv 4) (by rfl)))) (fun _ _ _ _ _ => (pv 11))) pa_nil))) pa_nil))))) (pss_one (ps_ret pe_bl)) pss_nil)
    (pss_cons (ps_if (pt_not (pt_val (pe_call G__law_is (hr.mono (by omega)) rfl T.m__law_is T.F__law_is.kp T.b__law_is .nil pass0 (pa_cons (pe_op (op_own2 (op := .Sub) G_Verdict_sub T.xs_Verdict T.xfs_Verdict T.xm_Verdict T.b_Verdict_sub (hr.mono (by omega))) (pv 7) (pv 8)) (pa_cons (pe_call G__law_ordered (hr.mono (by omega)) rfl T.m__law_ordered T.F__law_ordered.kp T.b__law_ordered .nil pass0 (pa_cons (pv 5) (pa_cons (pe_lc (own := [(("_law_pair" : Str), 11)]) (wi := (iList K (tVar 3))) (g := gName 11) (tt := (tTest (tOp (rInDL K true) (tVar 11) (tVar 4)))) (te := (tVar 11)) rfl sc_law_second_part.nd (pi_list (pv 3)) (blkOk_by (own := [(("_law_pair" : Str), 11)]) (N := N_law_second_part) (sc := defScope s_law_second_part) (by decide +kernel)) (fun _ _ _ _ _ => (pg_name (i := 11) sc_law_second_part.nd rfl (Or.inl rfl))) (fun _ _ _ _ _ => (pts_one (pt_cmpR (op_ninDL (units65 hr)) (pv 11) (pv 4) (by rfl)))) (fun _ _ _ _ _ => (pv 11))) pa_nil))) pa_nil))))) (pss_one (ps_ret pe_bl)) pss_nil)
    (pss_cons (ps_if (pt_not (pt_val (pe_call G__law_is (hr.mono (by omega)) rfl T.m__law_is T.F__law_is.kp T.b__law_is .nil pass0 (pa_cons (pe_meth (pv 7) T.l_Verdict T.t_Verdict_only G_Verdict_only (hr.mono (by omega)) T.b_Verdict_only .nil pass0 (pa_cons (pe_callTy call_list_of rfl T.z_list (by decide +kernel) (pa_cons (pv 6) pa_nil)) pa_nil)) (pa_cons (pe_call G__law_ordered (hr.mono (by omega)) rfl T.m__law_ordered T.F__law_ordered.kp T.b__law_ordered .nil pass0 (pa_cons (pv 5) (pa_cons (pe_lc (own := [(("_law_pair" : Str), 11)]) (wi := (iList K (tVar 3))) (g := gName 11) (tt := (tTest (tOp (rIn K false) (tOp (rIxT K) (tVar 11) (tC (.int 0))) (tVar 6)))) (te := (tVar 11)) rfl sc_law_second_part.nd (pi_list (pv 3)) (blkOk_by (own := [(("_law_pair" : Str), 11)]) (N := N_law_second_part) (sc := defScope s_law_second_part) (by decide +kernel)) (fun _ _ _ _ _ => (pg_name (i := 11) sc_law_second_part.nd rfl (Or.inl rfl))) (fun _ _ _ _ _ => (pts_one (pt_cmpR op_in_seq (pe_ix (r := (rIxT K)) ix_tup (pv 11) pe_int (fun _ _ => rfl)) (pv 6) (by rfl)))) (fun _ _ _ _ _ => (pv 11))) pa_nil))) pa_nil))))) (pss_one (ps_ret pe_bl)) pss_nil)
    (pss_cons (ps_if (pt_not (pt_val (pe_call G__law_is (hr.mono (by omega)) rfl T.m__law_is T.F__law_is.kp T.b__law_is .nil pass0 (pa_cons (pe_meth (pv 8) T.l_Verdict T.t_Verdict_only G_Verdict_only (hr.mono (by omega)) T.b_Verdict_only .nil pass0 (pa_cons (pe_callTy (T := "tuple") call_tuple_of rfl T.z_tuple (by decide +kernel) (pa_cons (pv 6) pa_nil)) pa_nil)) (pa_cons (pe_call G__law_ordered (hr.mono (by omega)) rfl T.m__law_ordered T.F__law_ordered.kp T.b__law_ordered .nil pass0 (pa_cons (pv 5) (pa_cons (pe_lc (own := [(("_law_pair" : Str), 11)]) (wi := (iList K (tVar 4))) (g := gName 11) (tt := (tTest (tOp (rIn K false) (tOp (rIxT K) (tVar 11) (tC (.int 0))) (tVar 6)))) (te := (tVar 11)) rfl sc_law_second_part.nd (pi_list (pv 4)) (blkOk_by (own := [(("_law_pair" : Str), 11)]) (N := N_law_second_part) (sc := defScope s_law_second_part) (by decide +kernel)) (fun _ _ _ _ _ => (pg_name (i := 11) sc_law_second_part.nd rfl (Or.inl rfl))) (fun _ _ _ _ _ => (pts_one (pt_cmpR op_in_seq (pe_ix (r := (rIxT K)) ix_tup (pv 11) pe_int (fun _ _ => rfl)) (pv 6) (by rfl)))) (fun _ _ _ _ _ => (pv 11))) pa_nil))) pa_nil))))) (pss_one (ps_ret pe_bl)) pss_nil)
    (pss_cons (ps_set (i := 9) sc_law_second_part.nd rfl (Or.inl rfl) (pe_op (op_own2 (op := .BitOr) G_Verdict_or T.xo_Verdict T.xfo_Verdict T.xm_Verdict T.b_Verdict_or (hr.mono (by omega))) (pe_op (op_own2 (op := .BitOr) G_Verdict_or T.xo_Verdict T.xfo_Verdict T.xm_Verdict T.b_Verdict_or (hr.mono (by omega))) (pe_op (op_own2 (op := .Sub) G_Verdict_sub T.xs_Verdict T.xfs_Verdict T.xm_Verdict T.b_Verdict_sub (hr.mono (by omega))) (pv 7) (pv 8)) (pe_op (op_own2 (op := .BitAnd) G_Verdict_and T.xa_Verdict T.xfa_Verdict T.xm_Verdict T.b_Verdict_and (hr.mono (by omega))) (pv 7) (pv 8))) (pe_op (op_own2 (op := .Sub) G_Verdict_sub T.xs_Verdict T.xfs_Verdict T.xm_Verdict T.b_Verdict_sub (hr.mono (by omega))) (pv 8) (pv 7))))
    (pss_cons (ps_if (pt_not (pt_val (pe_call G__law_is (hr.mono (by omega)) rfl T.m__law_is T.F__law_is.kp T.b__law_is .nil pass0 (pa_cons (pv 9) (pa_cons (pe_call G__law_ordered (hr.mono (by omega)) rfl T.m__law_ordered T.F__law_ordered.kp T.b__law_ordered .nil pass0 (pa_cons (pv 5) (pa_cons (pe_op op_cat (pv 3) (pv 4)) pa_nil))) pa_nil))))) (pss_one (ps_ret pe_bl)) pss_nil)
    (pss_cons (ps_if (pt_cmpR op_ne (pe_cmpR (op_eqO G_Verdict_eq T.xq_Verdict T.xfq_Verdict T.b_Verdict_eq (hr.mono (by omega))) (pv 7) (pv 8) (nomark _)) (pe_cmpR (op_eqD hr.units) (pe_call G__law_ordered (hr.mono (by omega)) rfl T.m__law_ordered T.F__law_ordered.kp T.b__law_ordered .nil pass0 (pa_cons (pv 5) (pa_cons (pv 3) pa_nil))) (pe_call G__law_ordered (hr.mono (by omega)) rfl T.m__law_ordered T.F__law_ordered.kp T.b__law_ordered .nil pass0 (pa_cons (pv 5) (pa_cons (pv 4) pa_nil))) (nomark _)) (nomark _)) (pss_one (ps_ret pe_bl)) pss_nil)
    (pss_one (ps_ret (pe_and (pe_call G__law_is (hr.mono (by omega)) rfl T.m__law_is T.F__law_is.kp T.b__law_is .nil pass0 (pa_cons (pv 7) (pa_cons (pe_call G__law_ordered (hr.mono (by omega)) rfl T.m__law_ordered T.F__law_ordered.kp T.b__law_ordered .nil pass0 (pa_cons (pv 5) (pa_cons (pv 3) pa_nil))) pa_nil))) (pe_one (pe_call G__law_is (hr.mono (by omega)) rfl T.m__law_is T.F__law_is.kp T.b__law_is .nil pass0 (pa_cons (pv 8) (pa_cons (pe_call G__law_ordered (hr.mono (by omega)) rfl T.m__law_ordered T.F__law_ordered.kp T.b__law_ordered .nil pass0 (pa_cons (pv 5) (pa_cons (pv 4) pa_nil))) pa_nil))))))))))))))))))))))), ?_⟩
  refine ⟨_, rfl, sr, cs, rfl, hsr, h63, fun st sc H1 s1 f1 g1 o1 => ?_⟩
  refine ⟨_, rfl, st, sc, 3, rfl, by decide, by decide, o1, fun nl ns H2 k2 o2 hnl0 n1 n2 hnl nlen nms => ⟨by show 1 ≤ sizeLine; decide, fun el hel => ⟨nl, el, _, _, rfl, rfl, by rw [upd_ne (ne_of_none hnl hel)]; exact hnl, upd_same, Nat.le_of_lt (small1000 (by rw [List.length_map]; show ns.length + 1 ≤ 1000; omega)), fun nm hnm => ?_⟩⟩⟩
  have o3 := (o2.new (o := .lst [V.str ""]) hel).new (o := .lst (ns.map V.str ++ [V.str ""])) hnm
  have k3 : Keep st H (upd (upd H2 el (.lst [V.str ""])) nm (.lst (ns.map V.str ++ [V.str ""]))) := ((keep_same s1).trans k2).trans ((Keep.new hel).trans (Keep.new hnm))
  have hN3 : (upd (upd H2 el (.lst [V.str ""])) nm (.lst (ns.map V.str ++ [V.str ""]))) nm = some (.lst ((ns ++ [("" : Str)]).map V.str)) := by rw [upd_same, str3]
  have nst : nm ≠ st := ((o2.new (o := .lst [V.str ""]) hel).ne hnm).1
  try dsimp only
  generalize upd (upd H2 el (.lst [V.str ""])) nm (.lst (ns.map V.str ++ [V.str ""])) = H3 at o3 k3 hN3 ⊢
  have l4 : (ns ++ [("" : Str)]).length = 4 := by rw [List.length_append]; show ns.length + 1 = 4; omega
  have sh4 : ∀ z ∈ ns ++ [("" : Str)], shS z := fun z hz => by
    rcases List.mem_append.mp hz with h | h
    · exact nm_sh (nms.good z h)
    · rw [List.mem_singleton.mp h]; exact mt_ok
  generalize ns ++ [("" : Str)] = N4 at hN3 l4 sh4
  refine ⟨_, rfl, _, rfl, st, sc, nm, 10, N4, rfl, by decide, o3, hN3, nst, (fun e => by rw [e] at l4; cases l4), by omega, fun ol xo one H4 k4 o4 ol0 ol1 ol2 hol hTo few1 all1 => ?_⟩
  refine ⟨_, rfl, _, rfl, st, sc, nm, 10, N4, rfl, by decide, o4, k4 _ _ nst hN3, nst, (fun e => by rw [e] at l4; cases l4), by omega, fun pl xp other H5 k5 o5 pl0 pl1 pl2 hpl hTp few2 all2 => ?_⟩
  refine ⟨rfl, fun kl H6 s6 kl0 hkl => ?_⟩
  have o6 := o5.sm s6
  have kst : kl ≠ st := (o5.ne kl0).1
  refine ⟨_, rfl, st, sc, 7, rfl, by decide, by decide, o6, fun r H7 r0 r1 k7 o7 _ => ⟨r, rfl, by omega, by omega, fun D hD => lc_range (lo := 0) (n := r.toNat) (fun i H' => ∃ ks : List Str, Keep st H7 H' ∧ StOk H' st sc ∧ H' D = some (.lst (ks.map V.str)) ∧ ks.length = i) ⟨[], Keep.new hD, o7.new hD, upd_same, rfl⟩ ?_ ?_⟩⟩
  · rintro i H' hi ⟨ks, kH, oH, hDk, hlen⟩
    refine ⟨rfl, tYes_of ⟨_, rfl, _, rfl, st, sc, 6, rfl, by decide, by decide, oH, fun j Hj j0 j1 kj oj _ => ?_⟩⟩
    obtain ⟨j', k, hk, rfl, hat⟩ := pick_at (L := kindsL) j0 j1
    refine ⟨kl, _, _, _, rfl, rfl, SqL.of ((kH.trans kj) _ _ kst (k7 _ _ kst hkl)), hat, ks.map V.str, kj _ _ (o7.ne hD).1 hDk, small1000 (by rw [List.length_map]; omega), ks ++ [k], keep_own (kH.trans kj) hD, oj.other (o7.ne hD).1 (o7.ne hD).2, ?_, by rw [List.length_append, hlen]; rfl⟩
    rw [upd_same, List.map_append]
    rfl
  rintro H8 ⟨ks, k8, o8, hs8, _⟩
  have k58 : Keep st H5 H8 := (keep_same s6).trans (k7.trans k8)
  have k48 : Keep st H4 H8 := k5.trans k58
  have s8 : Same H H8 := fresh_same (Same.refl _) f1 (k3.trans (k4.trans k48))
  have sh1 : ∀ x ∈ one, shP x := fun x hx => ⟨kinds_sh _ (all1 x hx).1, sh4 _ (all1 x hx).2⟩
  have sh2 : ∀ x ∈ other, shP x := fun x hx => ⟨kinds_sh _ (all2 x hx).1, sh4 _ (all2 x hx).2⟩
  have hk8 := (k7.trans k8) _ _ kst hkl
  have ho8 := k48 _ _ ol1 hol
  have hp8 := k58 _ _ pl1 hpl
  have to8 := TnAll.keep (TK.of_keep k48 o4.chg) hTo
  have tp8 := TnAll.keep (TK.of_keep k58 o5.chg) hTp
  clear k2 k3 k4 k5 k7 k8 k58 k48 o1 o2 o3 o4 o5 o6 o7 o8 hN3 s6
  refine ⟨_, rfl, mk_new (Same.refl _) (.inl ⟨xo, SqL.of ho8, to8⟩) (by omega) sh1 (fun x h => (all1 x h).1) fun a L H9 s9 _ hv9 iL => ?_⟩
  refine ⟨_, rfl, mk_new (Same.refl _) (.inl ⟨xp, SqL.of (s9 _ _ hp8), TnAll.keep (TK.of_same s9) tp8⟩) (by omega) sh2 (fun x h => (all2 x h).1) fun b M H10 s10 _ hw10 iM => ?_⟩
  have s810 := s9.trans s10
  have g : Gx K T.c_Verdict a b kl ol pl D L M one other xo xp ks H10 := ⟨hv9.same s10, hw10, s810 _ _ hk8, s810 _ _ ho8, TnAll.keep (TK.of_same s810) to8, s810 _ _ hp8, TnAll.keep (TK.of_same s810) tp8, s810 _ _ hs8⟩
  have sA : Same H H10 := s8.trans s810
  clear hk8 ho8 hp8 to8 tp8 hs8 hv9 hw10 s8 s810
  have vL : Vok L := Vok.of iL (by omega) sh1
  have vM : Vok M := Vok.of iM (by omega) sh2
  have xl := prs_len g.to
  have yl := prs_len g.tp
  have l12 : (one ++ other).length ≤ 30 := by rw [List.length_append]; omega
  have sh12 : ∀ x ∈ one ++ other, shP x := fun x h => (List.mem_append.mp h).elim (sh1 x) (sh2 x)
  obtain ⟨dx, t1, ha, _⟩ := id g.v
  obtain ⟨dy, t2, hb, _⟩ := id g.w
  refine ⟨_, rfl, _, rfl, a, b, dx, dy, _, _, rfl, rfl, ha, hb, a, b, L, M, rfl, g.v, g.w, vL, vM, fun c N Ha sa _ hc iN => ⟨c, rfl, ?_⟩⟩
  have sn := fun (ca : Addr) (hca : Ha ca = none) => sa.trans (Same.new (o := .lst (xo ++ xp)) hca)
  refine ⟨_, rfl, _, rfl, _, rfl, ol, pl, xo, xp, rfl, rfl, sa _ _ g.o, sa _ _ g.p, Nat.le_of_lt (small1000 (by omega)), fun ca hca => ?_⟩
  have iF : IsV (one ++ other) N := (iN.congr fun x hx => by simp only [List.mem_append, iL.mem x, iM.mem x, hx, and_true])
  refine ⟨kl, ca, _, rfl, (Same.new hca _ _ _ (sa _ _ g.k)), ⟨_, SqL.of upd_same, by rw [List.map_append]; exact TnAll.append (TnAll.keep (TK.of_same (sn ca hca)) g.to) (TnAll.keep (TK.of_same (sn ca hca)) g.tp)⟩, l12, sh12, fun l3 x3 N3 H3 s3 _ hl3 hT3 iv3 => ?_⟩
  obtain rfl : N3 = N := iv3.uniq iF
  refine ⟨c, l3, N3, rfl, ((hc.same (Same.new hca _))).same s3, ⟨x3, SqL.of hl3, hT3⟩, Vok.of iF (l12) sh12, iF.asc, fun Hz sz => ⟨_, rfl, if_false_of rfl ?_⟩⟩
  have sb := s3.trans sz
  clear s3 sz hl3 hT3 iv3 iF
  have g := g.same ((sn ca hca).trans sb)
  have sA := sA.trans ((sn ca hca).trans sb)
  obtain ⟨dx, t1, ha, _⟩ := id g.v
  obtain ⟨dy, t2, hb, _⟩ := id g.w
  clear sn
  refine ⟨_, rfl, _, rfl, a, b, dx, dy, _, _, rfl, rfl, ha, hb, a, b, L, M, rfl, g.v, g.w, vL, vM, fun c N Ha sa _ hc iN => ⟨c, rfl, ?_⟩⟩
  have sh3 : ∀ x ∈ one.filter (fun y => decide (y ∈ other)), shP x := fun x h => sh1 x (List.mem_filter.mp h).1
  refine ⟨_, rfl, _, rfl, ol, rfl, ⟨_, SqL.of (sa _ _ g.o)⟩, fun Dn hDn => fiS_list (xo.zip one) Prod.fst (fun z => decide (z.2 ∈ other)) Prod.fst (SqL.of (sa _ _ g.o)) (zip_left xl) (by rw [List.length_zip]; omega) hDn ?_ ?_⟩
  · rintro i c3 Hc hc3 sc3 Yes No yes no
    obtain ⟨c1, c2⟩ := List.getElem?_zip_eq_some.mp hc3
    obtain ⟨y, b2, hy, e2, hty, hb2⟩ := prs_at (TnAll.keep (TK.of_same ((sa).trans sc3)) g.to) c1
    rw [c2] at hy
    cases hy
    have la := pair_lay (sh1 c3.2 (List.mem_of_getElem? c2))
    refine ⟨rfl, _, rfl, _, rfl, pairD c3.2, other.map pairD, hty.dp, .lst (SqL.of ((sa.trans sc3) _ _ g.p)) (TnAll.keep (TK.of_same (sa.trans sc3)) g.tp).dp, shape_of la.1 (by have := la.2; omega), (pairs_lay sh2).2, _, rfl, ?_⟩
    show (if (hasD (pairD c3.2) (other.map pairD)) = true then _ else _)
    rw [show hasD (pairD c3.2) (other.map pairD) = decide (c3.2 ∈ other) from pairs_any c3.2 other]
    cases h : decide (c3.2 ∈ other) with
    | true => exact if_true_of rfl ⟨_, rfl, yes h _ (Same.refl _)⟩
    | false => exact if_false_of rfl (no h _ (Same.refl _))
  intro Hb sb hl
  have iF : IsV (one.filter (fun y => decide (y ∈ other))) N := (iN.congr fun x hx => by simp only [List.mem_filter, iL.mem x, iM.mem x, hx, and_true])
  refine ⟨kl, Dn, _, rfl, (((sa).trans sb) _ _ g.k), ⟨_, SqL.of hl, TnAll.keep (TK.of_same ((sa).trans sb)) (zip_tn (fun y => decide (y ∈ other)) g.to)⟩, (Nat.le_trans (List.length_filter_le _ _) (by omega)), sh3, fun l3 x3 N3 H3 s3 _ hl3 hT3 iv3 => ?_⟩
  obtain rfl : N3 = N := iv3.uniq iF
  refine ⟨c, l3, N3, rfl, ((hc.same sb)).same s3, ⟨x3, SqL.of hl3, hT3⟩, Vok.of iF ((Nat.le_trans (List.length_filter_le _ _) (by omega))) sh3, iF.asc, fun Hz sz => ⟨_, rfl, if_false_of rfl ?_⟩⟩
  have sd := s3.trans sz
  clear s3 sz hl3 hT3 iv3 iF
  have g := g.same ((sa.trans sb).trans sd)
  have sA := sA.trans ((sa.trans sb).trans sd)
  obtain ⟨dx, t1, ha, _⟩ := id g.v
  obtain ⟨dy, t2, hb, _⟩ := id g.w
  clear sh3
  refine ⟨_, rfl, _, rfl, a, b, dx, dy, _, _, rfl, rfl, ha, hb, a, b, L, M, rfl, g.v, g.w, vL, vM, fun c N Ha sa _ hc iN => ⟨c, rfl, ?_⟩⟩
  have sh3 : ∀ x ∈ one.filter (fun y => !decide (y ∈ other)), shP x := fun x h => sh1 x (List.mem_filter.mp h).1
  refine ⟨_, rfl, _, rfl, ol, rfl, ⟨_, SqL.of (sa _ _ g.o)⟩, fun Dn hDn => fiS_list (xo.zip one) Prod.fst (fun z => !decide (z.2 ∈ other)) Prod.fst (SqL.of (sa _ _ g.o)) (zip_left xl) (by rw [List.length_zip]; omega) hDn ?_ ?_⟩
  · rintro i c3 Hc hc3 sc3 Yes No yes no
    obtain ⟨c1, c2⟩ := List.getElem?_zip_eq_some.mp hc3
    obtain ⟨y, b2, hy, e2, hty, hb2⟩ := prs_at (TnAll.keep (TK.of_same ((sa).trans sc3)) g.to) c1
    rw [c2] at hy
    cases hy
    have la := pair_lay (sh1 c3.2 (List.mem_of_getElem? c2))
    refine ⟨rfl, _, rfl, _, rfl, pairD c3.2, other.map pairD, hty.dp, .lst (SqL.of ((sa.trans sc3) _ _ g.p)) (TnAll.keep (TK.of_same (sa.trans sc3)) g.tp).dp, shape_of la.1 (by have := la.2; omega), (pairs_lay sh2).2, _, rfl, ?_⟩
    show (if (!hasD (pairD c3.2) (other.map pairD)) = true then _ else _)
    rw [show hasD (pairD c3.2) (other.map pairD) = decide (c3.2 ∈ other) from pairs_any c3.2 other]
    cases h : !decide (c3.2 ∈ other) with
    | true => exact if_true_of rfl ⟨_, rfl, yes h _ (Same.refl _)⟩
    | false => exact if_false_of rfl (no h _ (Same.refl _))
  intro Hb sb hl
  have iF : IsV (one.filter (fun y => !decide (y ∈ other))) N := (iN.congr fun x hx => by simp only [List.mem_filter, iL.mem x, iM.mem x, hx, and_true])
  refine ⟨kl, Dn, _, rfl, (((sa).trans sb) _ _ g.k), ⟨_, SqL.of hl, TnAll.keep (TK.of_same ((sa).trans sb)) (zip_tn (fun y => !decide (y ∈ other)) g.to)⟩, (Nat.le_trans (List.length_filter_le _ _) (by omega)), sh3, fun l3 x3 N3 H3 s3 _ hl3 hT3 iv3 => ?_⟩
  obtain rfl : N3 = N := iv3.uniq iF
  refine ⟨c, l3, N3, rfl, ((hc.same sb)).same s3, ⟨x3, SqL.of hl3, hT3⟩, Vok.of iF ((Nat.le_trans (List.length_filter_le _ _) (by omega))) sh3, iF.asc, fun Hz sz => ⟨_, rfl, if_false_of rfl ?_⟩⟩
  have sd := s3.trans sz
  clear s3 sz hl3 hT3 iv3 iF
  have g := g.same ((sa.trans sb).trans sd)
  have sA := sA.trans ((sa.trans sb).trans sd)
  obtain ⟨dx, t1, ha, _⟩ := id g.v
  obtain ⟨dy, t2, hb, _⟩ := id g.w
  clear sh3
  refine ⟨_, rfl, a, dx, _, rfl, ha, rfl, _, rfl, D, ks.map V.str, rfl, .inl (SqL.of g.s), fun cp hcp => ⟨a, cp, L, ks, rfl, g.v.same (Same.new hcp _), vL, .inl (SqL.of upd_same), fun c N Ha sa' _ hc iN => ?_⟩⟩
  have sa := (Same.new (o := .lst (ks.map V.str)) hcp).trans sa'
  have sh3 : ∀ x ∈ one.filter (fun y => decide (y.1 ∈ ks)), shP x := fun x h => sh1 x (List.mem_filter.mp h).1
  refine ⟨_, rfl, _, rfl, ol, rfl, ⟨_, SqL.of (sa _ _ g.o)⟩, fun Dn hDn => fiS_list (xo.zip one) Prod.fst (fun z => decide (z.2.1 ∈ ks)) Prod.fst (SqL.of (sa _ _ g.o)) (zip_left xl) (by rw [List.length_zip]; omega) hDn ?_ ?_⟩
  · rintro i c3 Hc hc3 sc3 Yes No yes no
    obtain ⟨c1, c2⟩ := List.getElem?_zip_eq_some.mp hc3
    obtain ⟨y, b2, hy, e2, hty, hb2⟩ := prs_at (TnAll.keep (TK.of_same ((sa).trans sc3)) g.to) c1
    rw [c2] at hy
    cases hy
    rw [e2]
    refine ⟨rfl, _, rfl, b2, _, 0, _, rfl, rfl, hb2, rfl, _, rfl, D, ks.map V.str, rfl, .inl (SqL.of ((sa.trans sc3) _ _ g.s)), rfl, Td.flat_strs _, _, rfl, ?_⟩
    show (if inV (.str c3.2.1) (ks.map V.str) = true then _ else _)
    rw [inV_strs]
    cases h : decide (c3.2.1 ∈ ks) with
    | true => exact if_true_of rfl ⟨_, rfl, by rw [← e2]; exact yes h _ (Same.refl _)⟩
    | false => exact if_false_of rfl (no h _ (Same.refl _))
  intro Hb sb hl
  have iF : IsV (one.filter (fun y => decide (y.1 ∈ ks))) N := (iN.congr fun x hx => by simp only [List.mem_filter, iL.mem x, hx, and_true])
  refine ⟨kl, Dn, _, rfl, (((sa).trans sb) _ _ g.k), ⟨_, SqL.of hl, TnAll.keep (TK.of_same ((sa).trans sb)) (zip_tn (fun y => decide (y.1 ∈ ks)) g.to)⟩, (Nat.le_trans (List.length_filter_le _ _) (by omega)), sh3, fun l3 x3 N3 H3 s3 _ hl3 hT3 iv3 => ?_⟩
  obtain rfl : N3 = N := iv3.uniq iF
  refine ⟨c, l3, N3, rfl, ((hc.same sb)).same s3, ⟨x3, SqL.of hl3, hT3⟩, Vok.of iF ((Nat.le_trans (List.length_filter_le _ _) (by omega))) sh3, iF.asc, fun Hz sz => ⟨_, rfl, if_false_of rfl ?_⟩⟩
  have sd := s3.trans sz
  clear s3 sz hl3 hT3 iv3 iF
  have g := g.same ((sa.trans sb).trans sd)
  have sA := sA.trans ((sa.trans sb).trans sd)
  obtain ⟨dx, t1, ha, _⟩ := id g.v
  obtain ⟨dy, t2, hb, _⟩ := id g.w
  clear sh3
  refine ⟨_, rfl, b, dy, _, rfl, hb, rfl, _, rfl, D, ks.map V.str, rfl, .inl ⟨SqL.of g.s, fun cp hcp => ⟨b, cp, M, ks, rfl, g.w.same (Same.new hcp _), vM, .inr (SqT.of upd_same), fun c N Ha sa' _ hc iN => ?_⟩⟩⟩
  have sa := (Same.new (o := .tup (ks.map V.str)) hcp).trans sa'
  have sh3 : ∀ x ∈ other.filter (fun y => decide (y.1 ∈ ks)), shP x := fun x h => sh2 x (List.mem_filter.mp h).1
  refine ⟨_, rfl, _, rfl, pl, rfl, ⟨_, SqL.of (sa _ _ g.p)⟩, fun Dn hDn => fiS_list (xp.zip other) Prod.fst (fun z => decide (z.2.1 ∈ ks)) Prod.fst (SqL.of (sa _ _ g.p)) (zip_left yl) (by rw [List.length_zip]; omega) hDn ?_ ?_⟩
  · rintro i c3 Hc hc3 sc3 Yes No yes no
    obtain ⟨c1, c2⟩ := List.getElem?_zip_eq_some.mp hc3
    obtain ⟨y, b2, hy, e2, hty, hb2⟩ := prs_at (TnAll.keep (TK.of_same ((sa).trans sc3)) g.tp) c1
    rw [c2] at hy
    cases hy
    rw [e2]
    refine ⟨rfl, _, rfl, b2, _, 0, _, rfl, rfl, hb2, rfl, _, rfl, D, ks.map V.str, rfl, .inl (SqL.of ((sa.trans sc3) _ _ g.s)), rfl, Td.flat_strs _, _, rfl, ?_⟩
    show (if inV (.str c3.2.1) (ks.map V.str) = true then _ else _)
    rw [inV_strs]
    cases h : decide (c3.2.1 ∈ ks) with
    | true => exact if_true_of rfl ⟨_, rfl, by rw [← e2]; exact yes h _ (Same.refl _)⟩
    | false => exact if_false_of rfl (no h _ (Same.refl _))
  intro Hb sb hl
  have iF : IsV (other.filter (fun y => decide (y.1 ∈ ks))) N := (iN.congr fun x hx => by simp only [List.mem_filter, iM.mem x, hx, and_true])
  refine ⟨kl, Dn, _, rfl, (((sa).trans sb) _ _ g.k), ⟨_, SqL.of hl, TnAll.keep (TK.of_same ((sa).trans sb)) (zip_tn (fun y => decide (y.1 ∈ ks)) g.tp)⟩, (Nat.le_trans (List.length_filter_le _ _) (by omega)), sh3, fun l3 x3 N3 H3 s3 _ hl3 hT3 iv3 => ?_⟩
  obtain rfl : N3 = N := iv3.uniq iF
  refine ⟨c, l3, N3, rfl, ((hc.same sb)).same s3, ⟨x3, SqL.of hl3, hT3⟩, Vok.of iF ((Nat.le_trans (List.length_filter_le _ _) (by omega))) sh3, iF.asc, fun Hz sz => ⟨_, rfl, if_false_of rfl ?_⟩⟩
  have sd := s3.trans sz
  clear s3 sz hl3 hT3 iv3 iF
  have g := g.same ((sa.trans sb).trans sd)
  have sA := sA.trans ((sa.trans sb).trans sd)
  obtain ⟨dx, t1, ha, _⟩ := id g.v
  obtain ⟨dy, t2, hb, _⟩ := id g.w
  clear sh3
  have fL : ∀ (f : Pr → Bool), (L.filter f).length ≤ 30 := fun f => Nat.le_trans (List.length_filter_le _ _) vL.few
  have fM : ∀ (f : Pr → Bool), (M.filter f).length ≤ 30 := fun f => Nat.le_trans (List.length_filter_le _ _) vM.few
  have sL : ∀ (f : Pr → Bool), ∀ x ∈ L.filter f, shP x := fun f x h => vL.sh x (List.mem_filter.mp h).1
  have sM : ∀ (f : Pr → Bool), ∀ x ∈ M.filter f, shP x := fun f x h => vM.sh x (List.mem_filter.mp h).1
  refine ⟨_, rfl, _, rfl, a, b, dx, dy, _, _, rfl, rfl, ha, hb, a, b, L, M, rfl, g.v, g.w, vL, vM, fun c1 A Ha sa _ hA iA => ⟨c1, rfl, ?_⟩⟩
  refine ⟨_, rfl, _, rfl, a, b, dx, dy, _, _, rfl, rfl, sa _ _ ha, sa _ _ hb, a, b, L, M, rfl, g.v.same sa, g.w.same sa, vL, vM, fun c2 B Hb sb _ hB iB => ⟨c2, rfl, ?_⟩⟩
  have vA : Vok A := Vok.of iA (fL _) (sL _)
  have vB : Vok B := Vok.of iB (fL _) (sL _)
  have lA := iA.len
  have lB := iB.len
  have lL := iL.len
  have lM := iM.len
  have lA2 := List.length_filter_le (fun x => !decide (x ∈ M)) L
  have lB2 := List.length_filter_le (fun x => decide (x ∈ M)) L
  obtain ⟨dA, uA, hA1, _⟩ := id (hA.same sb)
  obtain ⟨dB, uB, hB1, _⟩ := id hB
  refine ⟨c1, c2, dA, dB, _, _, rfl, rfl, hA1, hB1, c1, c2, A, B, rfl, hA.same sb, hB, vA, vB, fun c3 AB Hc sc _ hAB iAB => ⟨c3, rfl, ?_⟩⟩
  have sabc := (sa.trans sb).trans sc
  refine ⟨_, rfl, _, rfl, b, a, dy, dx, _, _, rfl, rfl, sabc _ _ hb, sabc _ _ ha, b, a, M, L, rfl, g.w.same sabc, g.v.same sabc, vM, vL, fun c4 Cc Hd sd _ hC iC => ⟨c4, rfl, ?_⟩⟩
  have lAB : AB.length ≤ 30 := by
    have := iAB.len
    rw [List.length_append] at this
    omega
  have vAB : Vok AB := ⟨lAB, fun x h => ((List.mem_append.mp ((iAB.mem x).mp h).1).elim (vA.sh x) (vB.sh x)), fun x h => iAB.kind h⟩
  have vC : Vok Cc := Vok.of iC (fM _) (sM _)
  obtain ⟨dC, uC, hC1, _⟩ := id hC
  obtain ⟨dAB, uAB, hAB1, _⟩ := id (hAB.same sd)
  refine ⟨c3, c4, dAB, dC, _, _, rfl, rfl, hAB1, hC1, c3, c4, AB, Cc, rfl, hAB.same sd, hC, vAB, vC, fun c5 W He se _ hW iW => ⟨c5, rfl, ?_⟩⟩
  have sae := (sabc.trans sd).trans se
  have iW2 : IsV (one ++ other) W := iW.congr fun x hx => by
    have m1 := iL.mem x
    have m2 := iM.mem x
    simp only [hx, and_true] at m1 m2
    simp only [List.mem_append, iAB.mem x, iC.mem x, iA.mem x, iB.mem x, List.mem_filter, hx, and_true, m1, m2, Bool.not_eq_true', decide_eq_false_iff_not, decide_eq_true_eq]
    by_cases h1 : x ∈ one <;> by_cases h2 : x ∈ other <;> simp [h1, h2]
  have g := g.same sae
  have sA := sA.trans sae
  obtain ⟨dx, t1, ha, _⟩ := id g.v
  obtain ⟨dy, t2, hb, _⟩ := id g.w
  have hW := hW
  refine ⟨_, rfl, _, rfl, _, rfl, _, rfl, ol, pl, xo, xp, rfl, rfl, g.o, g.p, Nat.le_of_lt (small1000 (by omega)), fun ca hca => ?_⟩
  have iF := iW2
  refine ⟨kl, ca, _, rfl, (Same.new hca _ _ _ g.k), ⟨_, SqL.of upd_same, by rw [List.map_append]; exact TnAll.append (TnAll.keep (TK.of_same (Same.new hca _)) g.to) (TnAll.keep (TK.of_same (Same.new hca _)) g.tp)⟩, l12, sh12, fun l3 x3 N3 H3 s3 _ hl3 hT3 iv3 => ?_⟩
  obtain rfl : N3 = W := iv3.uniq iF
  refine ⟨c5, l3, N3, rfl, ((hW.same (Same.new hca _))).same s3, ⟨x3, SqL.of hl3, hT3⟩, Vok.of iF (l12) sh12, iF.asc, fun Hz sz => ⟨_, rfl, if_false_of rfl ?_⟩⟩
  have sf := s3.trans sz
  clear s3 sz hl3 hT3 iv3 iF
  have g := g.same ((Same.new hca _).trans sf)
  have sA := sA.trans ((Same.new hca _).trans sf)
  obtain ⟨dx, t1, ha, _⟩ := id g.v
  obtain ⟨dy, t2, hb, _⟩ := id g.w
  refine ⟨_, rfl, _, rfl, a, b, dx, dy, _, _, rfl, rfl, ha, hb, a, b, L, M, rfl, g.v, g.w, vL, vM, fun Hg sg => ⟨_, rfl, ?_⟩⟩
  refine ⟨_, rfl, _, rfl, kl, ol, one, rfl, sg _ _ g.k, ⟨xo, SqL.of (sg _ _ g.o), TnAll.keep (TK.of_same sg) g.to⟩, by omega, sh1, fun d1 z1 L1 Hh sh _ hd1 hT1 i1 => ?_⟩
  refine ⟨_, rfl, _, rfl, kl, pl, other, rfl, (sg.trans sh) _ _ g.k, ⟨xp, SqL.of ((sg.trans sh) _ _ g.p), TnAll.keep (TK.of_same (sg.trans sh)) g.tp⟩, by omega, sh2, fun d2 z2 M1 Hi si _ hd2 hT2 i2 => ?_⟩
  obtain rfl : L1 = L := i1.uniq iL
  obtain rfl : M1 = M := i2.uniq iM
  refine ⟨.list (L1.map pairD), .list (M1.map pairD), .lst (SqL.of (si _ _ hd1)) (TnAll.keep (TK.of_same si) hT1).dp, .lst (SqL.of hd2) hT2.dp, (pairs_lay vL.sh).2, (pairs_lay vM.sh).2, rfl, _, rfl, ?_⟩
  have e7 : (!decide (V.bl (decide (L1 = M1)) = V.bl (PyData.eqvAll (L1.map pairD) (M1.map pairD)))) = false := by
    rw [pairs_eqv, decide_eq_true rfl]
    rfl
  refine if_false_of e7 ?_
  have g := g.same ((sg.trans sh).trans si)
  have sA := sA.trans ((sg.trans sh).trans si)
  obtain ⟨dx, t1, ha, _⟩ := id g.v
  obtain ⟨dy, t2, hb, _⟩ := id g.w
  refine ⟨_, rfl, _, rfl, _, rfl, kl, ol, one, rfl, g.k, ⟨xo, SqL.of g.o, g.to⟩, by omega, sh1, fun l3 x3 N3 H3 s3 _ hl3 hT3 iv3 => ?_⟩
  obtain rfl := iv3.uniq iL
  refine ⟨a, l3, N3, rfl, g.v.same s3, ⟨x3, SqL.of hl3, hT3⟩, vL, iL.asc, fun Hz sz => ⟨_, rfl, iteT ?_⟩⟩
  have g := g.same (s3.trans sz)
  refine ⟨_, rfl, _, rfl, _, rfl, kl, pl, other, rfl, g.k, ⟨xp, SqL.of g.p, g.tp⟩, by omega, sh2, fun l4 x4 N4' H4 s4 _ hl4 hT4 iv4 => ?_⟩
  obtain rfl := iv4.uniq iM
  exact ⟨b, l4, N4', rfl, g.w.same s4, ⟨x4, SqL.of hl4, hT4⟩, vM, iM.asc, fun Hy sy => q _ ((((sA.trans s3).trans sz).trans s4).trans sy)⟩
theorem ok_law (T : Tops w K mg) (G__law_first_part : FnOk P w K mg base CX0 9 T.a__law_first_part T.d__law_first_part ["_law_script"] (spPart K)) (G__law_second_part : FnOk P w K mg base CX0 9 T.a__law_second_part T.d__law_second_part ["_law_script"] (spPart K)) :
    FnOk P w K mg base CX0 10 T.a_law T.d_law ["_law_script"] (spLaw K) := by
  refine T.F_law.ok sc_law (fun vs H Q E h => ?_) (fun cdv A outer s H vs Q E hr h => ?_)
  · obtain ⟨a, ns, rfl, _⟩ := h; rfl
  obtain ⟨sr, cs, rfl, hsr, h63, q⟩ := h
  refine ⟨_, (pss_one (ps_ret (pe_and (pe_call G__law_first_part (hr.mono (by omega)) rfl T.m__law_first_part T.F__law_first_part.kp T.b__law_first_part .nil pass0 (pa_cons (pv 0) pa_nil)) (pe_one (pe_call G__law_second_part (hr.mono (by omega)) rfl T.m__law_second_part T.F__law_second_part.kp T.b__law_second_part .nil pass0 (pa_cons (pv 0) pa_nil)))))), ?_⟩
  exact ⟨_, rfl, sr, cs, rfl, hsr, h63, fun H1 s1 => ⟨_, rfl, iteT ⟨_, rfl, sr, cs, rfl, SqL.same s1 hsr, h63, fun H2 s2 => q H2⟩⟩⟩
end
end K50
namespace K50
open PySem PySem.Spec PyProof.Rows L2 Td
theorem law_of {w : World} {K : PySem.W.Frag} {mg : Str → Option Value} {base : Heap} (T : Tops w K mg) : FnOk PySem.Challenge.pw_toldonward_k50_verdict_pairs w K mg base CX0 10 T.a_law T.d_law ["_law_script"] (spLaw K) := by
  have draw := ok_draw (P := PySem.Challenge.pw_toldonward_k50_verdict_pairs) (base := base) T
  have nms := ok_names (P := PySem.Challenge.pw_toldonward_k50_verdict_pairs) (base := base) T draw
  have sta := ok_state (P := PySem.Challenge.pw_toldonward_k50_verdict_pairs) (base := base) T
  have kin := ok_law_kinds (P := PySem.Challenge.pw_toldonward_k50_verdict_pairs) (base := base) T
  have prs := ok_law_pairs T draw kin
  have ord := ok_law_ordered (P := PySem.Challenge.pw_toldonward_k50_verdict_pairs) (base := base) T
  have vin := ok_verd T (ok_check_kind T (ok_InvalidKind (P := PySem.Challenge.pw_toldonward_k50_verdict_pairs) (base := base) T))
  have vi0 := ok_verd0 vin
  have ref := ok_law_refused T vin
  have vpa := ok_pairs (P := PySem.Challenge.pw_toldonward_k50_verdict_pairs) (base := base) T
  have vki := ok_kinds (P := PySem.Challenge.pw_toldonward_k50_verdict_pairs) (base := base) T
  have vle := ok_lenV (P := PySem.Challenge.pw_toldonward_k50_verdict_pairs) (base := base) T
  have vha := ok_has (P := PySem.Challenge.pw_toldonward_k50_verdict_pairs) (base := base) T
  have veq := ok_eqV (P := PySem.Challenge.pw_toldonward_k50_verdict_pairs) (base := base) T
  have lis := ok_law_is T vpa vle veq vi0
  exact ok_law T (ok_first_part T sta draw nms kin prs ord ref vpa vki vle vha vi0) (ok_second_part T sta draw nms kin prs ord lis (ok_only T vi0) (ok_or2 T vi0) (ok_and2 T vi0) (ok_sub2 T vi0) veq vi0)
abbrev D_InvalidKind_init : He.DefD := ⟨("InvalidKind", some "__init__"), "__init__", "InvalidKind.__init__", defArgs s_InvalidKind_init, defBody s_InvalidKind_init, defScope s_InvalidKind_init, [], []⟩
abbrev D_check_kind : He.DefD := ⟨("check_kind", none), "check_kind", "check_kind", defArgs s_check_kind, defBody s_check_kind, defScope s_check_kind, [], []⟩
abbrev D_Verdict_init : He.DefD := ⟨("Verdict", some "__init__"), "__init__", "Verdict.__init__", defArgs s_Verdict_init, defBody s_Verdict_init, defScope s_Verdict_init, [], []⟩
abbrev D_Verdict_pairs : He.DefD := ⟨("Verdict", some "pairs"), "pairs", "Verdict.pairs", defArgs s_Verdict_pairs, defBody s_Verdict_pairs, defScope s_Verdict_pairs, [], []⟩
abbrev D_Verdict_kinds : He.DefD := ⟨("Verdict", some "kinds"), "kinds", "Verdict.kinds", defArgs s_Verdict_kinds, defBody s_Verdict_kinds, defScope s_Verdict_kinds, [], []⟩
abbrev D_Verdict_only : He.DefD := ⟨("Verdict", some "only"), "only", "Verdict.only", defArgs s_Verdict_only, defBody s_Verdict_only, defScope s_Verdict_only, [], []⟩
abbrev D_Verdict_or : He.DefD := ⟨("Verdict", some "__or__"), "__or__", "Verdict.__or__", defArgs s_Verdict_or, defBody s_Verdict_or, defScope s_Verdict_or, [], []⟩
abbrev D_Verdict_and : He.DefD := ⟨("Verdict", some "__and__"), "__and__", "Verdict.__and__", defArgs s_Verdict_and, defBody s_Verdict_and, defScope s_Verdict_and, [], []⟩
abbrev D_Verdict_sub : He.DefD := ⟨("Verdict", some "__sub__"), "__sub__", "Verdict.__sub__", defArgs s_Verdict_sub, defBody s_Verdict_sub, defScope s_Verdict_sub, [], []⟩
abbrev D_Verdict_eq : He.DefD := ⟨("Verdict", some "__eq__"), "__eq__", "Verdict.__eq__", defArgs s_Verdict_eq, defBody s_Verdict_eq, defScope s_Verdict_eq, [], []⟩
abbrev D_Verdict_len : He.DefD := ⟨("Verdict", some "__len__"), "__len__", "Verdict.__len__", defArgs s_Verdict_len, defBody s_Verdict_len, defScope s_Verdict_len, [], []⟩
abbrev D_Verdict_contains : He.DefD := ⟨("Verdict", some "__contains__"), "__contains__", "Verdict.__contains__", defArgs s_Verdict_contains, defBody s_Verdict_contains, defScope s_Verdict_contains, [], []⟩
abbrev D_law_state : He.DefD := ⟨("_law_state", none), "_law_state", "_law_state", defArgs s_law_state, defBody s_law_state, defScope s_law_state, [], []⟩
abbrev D_law_draw : He.DefD := ⟨("_law_draw", none), "_law_draw", "_law_draw", defArgs s_law_draw, defBody s_law_draw, defScope s_law_draw, [], []⟩
abbrev D_law_names : He.DefD := ⟨("_law_names", none), "_law_names", "_law_names", defArgs s_law_names, defBody s_law_names, defScope s_law_names, [], []⟩
abbrev D_law_kinds : He.DefD := ⟨("_law_kinds", none), "_law_kinds", "_law_kinds", defArgs s_law_kinds, defBody s_law_kinds, defScope s_law_kinds, [], []⟩
abbrev D_law_pairs : He.DefD := ⟨("_law_pairs", none), "_law_pairs", "_law_pairs", defArgs s_law_pairs, defBody s_law_pairs, defScope s_law_pairs, [], []⟩
abbrev D_law_ordered : He.DefD := ⟨("_law_ordered", none), "_law_ordered", "_law_ordered", defArgs s_law_ordered, defBody s_law_ordered, defScope s_law_ordered, [], []⟩
abbrev D_law_refused : He.DefD := ⟨("_law_refused", none), "_law_refused", "_law_refused", defArgs s_law_refused, defBody s_law_refused, defScope s_law_refused, [], []⟩
abbrev D_law_is : He.DefD := ⟨("_law_is", none), "_law_is", "_law_is", defArgs s_law_is, defBody s_law_is, defScope s_law_is, [], []⟩
abbrev D_law_first_part : He.DefD := ⟨("_law_first_part", none), "_law_first_part", "_law_first_part", defArgs s_law_first_part, defBody s_law_first_part, defScope s_law_first_part, [], []⟩
abbrev D_law_second_part : He.DefD := ⟨("_law_second_part", none), "_law_second_part", "_law_second_part", defArgs s_law_second_part, defBody s_law_second_part, defScope s_law_second_part, [], []⟩
abbrev D_law : He.DefD := ⟨("law", none), "law", "law", defArgs s_law, defBody s_law, defScope s_law, [], []⟩
def us : List SupD := []
def fa0 : List He.Fa := [.glo "check_kind", .glo "_law_state", .glo "_law_draw", .glo "_law_names", .glo "_law_kinds", .glo "_law_pairs", .glo "_law_ordered", .glo "_law_refused", .glo "_law_is", .glo "_law_first_part", .glo "_law_second_part", .glo "law", .cls "Verdict", .glo "KINDS", .free "isinstance", .free "str", .free "tuple", .free "list", .free "len", .free "all", .free "set", .free "enumerate", .free "range", .free "abs", .free "int", .free "max", .free "dict", .free "zip", .free "sorted", .free "bool"]
def fa1 : List He.Fa := [.glo "ToldError", .glo "InvalidKind", .exm "InvalidKind" "InvalidKind" true, .glo "Verdict", .mkr "Verdict", .noat "Verdict" "_pairs", .meth "Verdict" "pairs", .meth "Verdict" "kinds", .meth "Verdict" "only"]
def fa : List He.Fa := fa0 ++ (fa1)
def fn0 : List He.DefD := [D_InvalidKind_init, D_check_kind, D_Verdict_init, D_Verdict_pairs, D_Verdict_kinds, D_Verdict_only, D_Verdict_or, D_Verdict_and, D_Verdict_sub, D_Verdict_eq, D_Verdict_len, D_Verdict_contains, D_law_state, D_law_draw, D_law_names, D_law_kinds, D_law_pairs, D_law_ordered, D_law_refused, D_law_is, D_law_first_part, D_law_second_part, D_law]
def fn : List He.DefD := fn0
def ts : List He.Tab := []
def vt : List (Str × List (Str × He.Dv)) := []
def xs : List (Str × Str) := [("InvalidKind", "kind")]
def ex (K : PySem.W.Frag) : Bool := (vt.all fun t => He.valsB K (He.ga K t.1) t.2) && ((xs.all fun q => excB K q.1 q.2) && (tupB K (He.ga K "KINDS") ["mixed", "through", "twice", "needless", "missed", "long"] && (He.eqO (PySem.W.findIn K (.ref (He.ga K "Verdict")) "__eq__") (some (some (.ref (He.fAd K ("Verdict", some "__eq__"))))) && (He.eqO (PySem.W.findIn K (.ref (He.ga K "Verdict")) "__or__") (some (some (.ref (He.fAd K ("Verdict", some "__or__"))))) && (He.eqO (PySem.W.findIn K (.ref (He.ga K "Verdict")) "__and__") (some (some (.ref (He.fAd K ("Verdict", some "__and__"))))) && (He.eqO (PySem.W.findIn K (.ref (He.ga K "Verdict")) "__sub__") (some (some (.ref (He.fAd K ("Verdict", some "__sub__"))))) && (He.eqO (PySem.W.findIn K (.ref (He.ga K "Verdict")) "__len__") (some (some (.ref (He.fAd K ("Verdict", some "__len__"))))) && (He.eqO (PySem.W.findIn K (.ref (He.ga K "Verdict")) "__contains__") (some (some (.ref (He.fAd K ("Verdict", some "__contains__"))))) && (PySem.W.isFn K (.ref (He.fAd K ("Verdict", some "__eq__"))) && (PySem.W.isFn K (.ref (He.fAd K ("Verdict", some "__or__"))) && (PySem.W.isFn K (.ref (He.fAd K ("Verdict", some "__and__"))) && (PySem.W.isFn K (.ref (He.fAd K ("Verdict", some "__sub__"))) && (PySem.W.isFn K (.ref (He.fAd K ("Verdict", some "__len__"))) && (PySem.W.isFn K (.ref (He.fAd K ("Verdict", some "__contains__"))) && (He.eqO (PySem.W.findIn K (.ref (He.ga K "Verdict")) "__bool__") (some none) && (PySem.W.selfFirst K (He.ga K "Verdict") && (ownB K (He.ga K "Verdict"))))))))))))))))))
theorem fun_of {K : PySem.W.Frag} {x qual : Str} {st : Stmt} {f : Addr} (h : ∃ fd, FunD K x qual (defArgs st) (defBody st) (defScope st) [] [] f fd) : ∃ fd, Fun K x qual st f fd := by
  obtain ⟨fd, F⟩ := h
  obtain ⟨oc, od, dV, kV, doc, pm, an, cdv, ct, osl, e, lk, hcd, hD, hK⟩ := F.ex
  rcases hD with ⟨_, rfl⟩ | ⟨z, _⟩
  · exact ⟨fd, ⟨oc, od, kV, doc, pm, an, cdv, ct, osl, e, lk, hcd⟩, F.kp⟩
  · exact absurd rfl z
theorem val_of {K : PySem.W.Frag} {t : Str × List (Str × He.Dv)} (h : He.valsB K (He.ga K t.1) t.2 = true) (q : Str × He.Dv) (hq : q ∈ t.2) : ∃ u, PySem.W.nsIn K (He.ga K t.1) q.1 = some (some u) ∧ RelV (q.2.v K) u := He.valsB_ok h hq
theorem kdct_of {K : PySem.W.Frag} {w : World} {a : Addr} {es : Array DictEntry} {n : Nat} {x : Str} {v : V} (l : K.lookup a = some ⟨.type "dict", none, .dict es n, #[]⟩) (y : PySem.W.KeysLit w.params es.toList) (h : ∃ u, PySem.W.nsIn K a x = some (some u) ∧ RelV v u) : KDct K w a x v := by
  obtain ⟨u, h1, h2⟩ := h
  exact ⟨es, n, u, l, y, h1, h2⟩
theorem law_binds {K : PySem.W.Frag} {x qual : Str} {st : Stmt} {f : Addr} {fd : FuncData} {ps : List Str} (F : Fun K x qual st f fd)
    (h : ∀ (kV doc pm : Value) (an : Option Addr) (cdv ct : Value) (us : List Value), us.length = ps.length → bindArgs (PySem.W.fnOf x qual (defArgs st) (defBody st) (defScope st) .none kV doc pm an cdv ct) ⟨us, []⟩ = pure (ps.zip us)) (s : Shared) (us : List Value) (hl : us.length = ps.length) : BindsTo s fd ⟨us, []⟩ (ps.zip us) := by
  obtain ⟨oc, od, kV, doc, pm, an, cdv, ct, osl, rfl, lk, hcd⟩ := F.ex
  exact .of_eq (h kV doc pm an cdv ct us hl)
theorem tops {w : World} {K : PySem.W.Frag} {h : Heap} {mg : Str → Option Value} (X : K.In h) (G : h.Ns mainGlobals mg) (c : SaysU fa fn ts us ex w K) : ∃ T : Tops w K mg, ∀ (s : Shared) (u : Value), BindsTo s T.d_law ⟨[u], []⟩ [("_law_script", u)] := by
  obtain ⟨d_InvalidKind_init, F_InvalidKind_init⟩ := fun_of (x := "__init__") (qual := "InvalidKind.__init__") (st := s_InvalidKind_init) (f := He.fAd K ("InvalidKind", some "__init__")) (c.t.d.def_ 0 (d := D_InvalidKind_init) rfl)
  obtain ⟨d_check_kind, F_check_kind⟩ := fun_of (x := "check_kind") (qual := "check_kind") (st := s_check_kind) (f := He.fAd K ("check_kind", none)) (c.t.d.def_ 1 (d := D_check_kind) rfl)
  obtain ⟨d_Verdict_init, F_Verdict_init⟩ := fun_of (x := "__init__") (qual := "Verdict.__init__") (st := s_Verdict_init) (f := He.fAd K ("Verdict", some "__init__")) (c.t.d.def_ 2 (d := D_Verdict_init) rfl)
  obtain ⟨d_Verdict_pairs, F_Verdict_pairs⟩ := fun_of (x := "pairs") (qual := "Verdict.pairs") (st := s_Verdict_pairs) (f := He.fAd K ("Verdict", some "pairs")) (c.t.d.def_ 3 (d := D_Verdict_pairs) rfl)
  obtain ⟨d_Verdict_kinds, F_Verdict_kinds⟩ := fun_of (x := "kinds") (qual := "Verdict.kinds") (st := s_Verdict_kinds) (f := He.fAd K ("Verdict", some "kinds")) (c.t.d.def_ 4 (d := D_Verdict_kinds) rfl)
  obtain ⟨d_Verdict_only, F_Verdict_only⟩ := fun_of (x := "only") (qual := "Verdict.only") (st := s_Verdict_only) (f := He.fAd K ("Verdict", some "only")) (c.t.d.def_ 5 (d := D_Verdict_only) rfl)
  obtain ⟨d_Verdict_or, F_Verdict_or⟩ := fun_of (x := "__or__") (qual := "Verdict.__or__") (st := s_Verdict_or) (f := He.fAd K ("Verdict", some "__or__")) (c.t.d.def_ 6 (d := D_Verdict_or) rfl)
  obtain ⟨d_Verdict_and, F_Verdict_and⟩ := fun_of (x := "__and__") (qual := "Verdict.__and__") (st := s_Verdict_and) (f := He.fAd K ("Verdict", some "__and__")) (c.t.d.def_ 7 (d := D_Verdict_and) rfl)
  obtain ⟨d_Verdict_sub, F_Verdict_sub⟩ := fun_of (x := "__sub__") (qual := "Verdict.__sub__") (st := s_Verdict_sub) (f := He.fAd K ("Verdict", some "__sub__")) (c.t.d.def_ 8 (d := D_Verdict_sub) rfl)
  obtain ⟨d_Verdict_eq, F_Verdict_eq⟩ := fun_of (x := "__eq__") (qual := "Verdict.__eq__") (st := s_Verdict_eq) (f := He.fAd K ("Verdict", some "__eq__")) (c.t.d.def_ 9 (d := D_Verdict_eq) rfl)
  obtain ⟨d_Verdict_len, F_Verdict_len⟩ := fun_of (x := "__len__") (qual := "Verdict.__len__") (st := s_Verdict_len) (f := He.fAd K ("Verdict", some "__len__")) (c.t.d.def_ 10 (d := D_Verdict_len) rfl)
  obtain ⟨d_Verdict_contains, F_Verdict_contains⟩ := fun_of (x := "__contains__") (qual := "Verdict.__contains__") (st := s_Verdict_contains) (f := He.fAd K ("Verdict", some "__contains__")) (c.t.d.def_ 11 (d := D_Verdict_contains) rfl)
  obtain ⟨d_law_state, F_law_state⟩ := fun_of (x := "_law_state") (qual := "_law_state") (st := s_law_state) (f := He.fAd K ("_law_state", none)) (c.t.d.def_ 12 (d := D_law_state) rfl)
  obtain ⟨d_law_draw, F_law_draw⟩ := fun_of (x := "_law_draw") (qual := "_law_draw") (st := s_law_draw) (f := He.fAd K ("_law_draw", none)) (c.t.d.def_ 13 (d := D_law_draw) rfl)
  obtain ⟨d_law_names, F_law_names⟩ := fun_of (x := "_law_names") (qual := "_law_names") (st := s_law_names) (f := He.fAd K ("_law_names", none)) (c.t.d.def_ 14 (d := D_law_names) rfl)
  obtain ⟨d_law_kinds, F_law_kinds⟩ := fun_of (x := "_law_kinds") (qual := "_law_kinds") (st := s_law_kinds) (f := He.fAd K ("_law_kinds", none)) (c.t.d.def_ 15 (d := D_law_kinds) rfl)
  obtain ⟨d_law_pairs, F_law_pairs⟩ := fun_of (x := "_law_pairs") (qual := "_law_pairs") (st := s_law_pairs) (f := He.fAd K ("_law_pairs", none)) (c.t.d.def_ 16 (d := D_law_pairs) rfl)
  obtain ⟨d_law_ordered, F_law_ordered⟩ := fun_of (x := "_law_ordered") (qual := "_law_ordered") (st := s_law_ordered) (f := He.fAd K ("_law_ordered", none)) (c.t.d.def_ 17 (d := D_law_ordered) rfl)
  obtain ⟨d_law_refused, F_law_refused⟩ := fun_of (x := "_law_refused") (qual := "_law_refused") (st := s_law_refused) (f := He.fAd K ("_law_refused", none)) (c.t.d.def_ 18 (d := D_law_refused) rfl)
  obtain ⟨d_law_is, F_law_is⟩ := fun_of (x := "_law_is") (qual := "_law_is") (st := s_law_is) (f := He.fAd K ("_law_is", none)) (c.t.d.def_ 19 (d := D_law_is) rfl)
  obtain ⟨d_law_first_part, F_law_first_part⟩ := fun_of (x := "_law_first_part") (qual := "_law_first_part") (st := s_law_first_part) (f := He.fAd K ("_law_first_part", none)) (c.t.d.def_ 20 (d := D_law_first_part) rfl)
  obtain ⟨d_law_second_part, F_law_second_part⟩ := fun_of (x := "_law_second_part") (qual := "_law_second_part") (st := s_law_second_part) (f := He.fAd K ("_law_second_part", none)) (c.t.d.def_ 21 (d := D_law_second_part) rfl)
  obtain ⟨d_law, F_law⟩ := fun_of (x := "law") (qual := "law") (st := s_law) (f := He.fAd K ("law", none)) (c.t.d.def_ 22 (d := D_law) rfl)
  obtain ⟨f_kin, r_f_kin⟩ := He.ba (He.ba (He.ba c.more).2).2
  obtain ⟨f_q, r_f_q⟩ := He.ba r_f_kin
  obtain ⟨f_o, r_f_o⟩ := He.ba r_f_q
  obtain ⟨f_a, r_f_a⟩ := He.ba r_f_o
  obtain ⟨f_s, r_f_s⟩ := He.ba r_f_a
  obtain ⟨f_l, r_f_l⟩ := He.ba r_f_s
  obtain ⟨f_c, r_f_c⟩ := He.ba r_f_l
  obtain ⟨f_fq, r_f_fq⟩ := He.ba r_f_c
  obtain ⟨f_fo, r_f_fo⟩ := He.ba r_f_fq
  obtain ⟨f_fa, r_f_fa⟩ := He.ba r_f_fo
  obtain ⟨f_fs, r_f_fs⟩ := He.ba r_f_fa
  obtain ⟨f_fl, r_f_fl⟩ := He.ba r_f_fs
  obtain ⟨f_fc, r_f_fc⟩ := He.ba r_f_fl
  obtain ⟨f_bool, r_f_bool⟩ := He.ba r_f_fc
  obtain ⟨f_self, r_f_self⟩ := He.ba r_f_bool
  have f_own := r_f_self
  have E_InvalidKind := excB_ok (List.all_eq_true.mp (He.ba (He.ba c.more).2).1 ("InvalidKind", "kind") (by simp [xs]))
  exact ⟨{
    z_isinstance := He.free_ok X G (c.t.d.fact 14 (f := .free "isinstance") rfl)
    z_str := He.free_ok X G (c.t.d.fact 15 (f := .free "str") rfl)
    z_tuple := He.free_ok X G (c.t.d.fact 16 (f := .free "tuple") rfl)
    z_list := He.free_ok X G (c.t.d.fact 17 (f := .free "list") rfl)
    z_len := He.free_ok X G (c.t.d.fact 18 (f := .free "len") rfl)
    z_all := He.free_ok X G (c.t.d.fact 19 (f := .free "all") rfl)
    z_set := He.free_ok X G (c.t.d.fact 20 (f := .free "set") rfl)
    z_enumerate := He.free_ok X G (c.t.d.fact 21 (f := .free "enumerate") rfl)
    z_range := He.free_ok X G (c.t.d.fact 22 (f := .free "range") rfl)
    z_abs := He.free_ok X G (c.t.d.fact 23 (f := .free "abs") rfl)
    z_int := He.free_ok X G (c.t.d.fact 24 (f := .free "int") rfl)
    z_max := He.free_ok X G (c.t.d.fact 25 (f := .free "max") rfl)
    z_dict := He.free_ok X G (c.t.d.fact 26 (f := .free "dict") rfl)
    z_zip := He.free_ok X G (c.t.d.fact 27 (f := .free "zip") rfl)
    z_sorted := He.free_ok X G (c.t.d.fact 28 (f := .free "sorted") rfl)
    z_bool := He.free_ok X G (c.t.d.fact 29 (f := .free "bool") rfl)
    a_InvalidKind_init := He.fAd K ("InvalidKind", some "__init__")
    d_InvalidKind_init := d_InvalidKind_init
    F_InvalidKind_init := F_InvalidKind_init
    b_InvalidKind_init := F_InvalidKind_init.binds (ps := ["self", "kind"]) fun _ _ _ _ _ _ us hl => match us, hl with | [_, _], _ => rfl
    a_check_kind := He.fAd K ("check_kind", none)
    d_check_kind := d_check_kind
    F_check_kind := F_check_kind
    b_check_kind := F_check_kind.binds (ps := ["kind"]) fun _ _ _ _ _ _ us hl => match us, hl with | [_], _ => rfl
    m_check_kind := He.glo_ok X G (c.t.d.fact 0 (f := .glo "check_kind") rfl)
    a_Verdict_init := He.fAd K ("Verdict", some "__init__")
    d_Verdict_init := d_Verdict_init
    F_Verdict_init := F_Verdict_init
    b_Verdict_init := F_Verdict_init.binds (ps := ["self", "pairs"]) fun _ _ _ _ _ _ us hl => match us, hl with | [_, _], _ => rfl
    a_Verdict_pairs := He.fAd K ("Verdict", some "pairs")
    d_Verdict_pairs := d_Verdict_pairs
    F_Verdict_pairs := F_Verdict_pairs
    b_Verdict_pairs := F_Verdict_pairs.binds (ps := ["self"]) fun _ _ _ _ _ _ us hl => match us, hl with | [_], _ => rfl
    a_Verdict_kinds := He.fAd K ("Verdict", some "kinds")
    d_Verdict_kinds := d_Verdict_kinds
    F_Verdict_kinds := F_Verdict_kinds
    b_Verdict_kinds := F_Verdict_kinds.binds (ps := ["self"]) fun _ _ _ _ _ _ us hl => match us, hl with | [_], _ => rfl
    a_Verdict_only := He.fAd K ("Verdict", some "only")
    d_Verdict_only := d_Verdict_only
    F_Verdict_only := F_Verdict_only
    b_Verdict_only := F_Verdict_only.binds (ps := ["self", "kinds"]) fun _ _ _ _ _ _ us hl => match us, hl with | [_, _], _ => rfl
    a_Verdict_or := He.fAd K ("Verdict", some "__or__")
    d_Verdict_or := d_Verdict_or
    F_Verdict_or := F_Verdict_or
    b_Verdict_or := F_Verdict_or.binds (ps := ["self", "other"]) fun _ _ _ _ _ _ us hl => match us, hl with | [_, _], _ => rfl
    a_Verdict_and := He.fAd K ("Verdict", some "__and__")
    d_Verdict_and := d_Verdict_and
    F_Verdict_and := F_Verdict_and
    b_Verdict_and := F_Verdict_and.binds (ps := ["self", "other"]) fun _ _ _ _ _ _ us hl => match us, hl with | [_, _], _ => rfl
    a_Verdict_sub := He.fAd K ("Verdict", some "__sub__")
    d_Verdict_sub := d_Verdict_sub
    F_Verdict_sub := F_Verdict_sub
    b_Verdict_sub := F_Verdict_sub.binds (ps := ["self", "other"]) fun _ _ _ _ _ _ us hl => match us, hl with | [_, _], _ => rfl
    a_Verdict_eq := He.fAd K ("Verdict", some "__eq__")
    d_Verdict_eq := d_Verdict_eq
    F_Verdict_eq := F_Verdict_eq
    b_Verdict_eq := F_Verdict_eq.binds (ps := ["self", "other"]) fun _ _ _ _ _ _ us hl => match us, hl with | [_, _], _ => rfl
    a_Verdict_len := He.fAd K ("Verdict", some "__len__")
    d_Verdict_len := d_Verdict_len
    F_Verdict_len := F_Verdict_len
    b_Verdict_len := F_Verdict_len.binds (ps := ["self"]) fun _ _ _ _ _ _ us hl => match us, hl with | [_], _ => rfl
    a_Verdict_contains := He.fAd K ("Verdict", some "__contains__")
    d_Verdict_contains := d_Verdict_contains
    F_Verdict_contains := F_Verdict_contains
    b_Verdict_contains := F_Verdict_contains.binds (ps := ["self", "x"]) fun _ _ _ _ _ _ us hl => match us, hl with | [_, _], _ => rfl
    a__law_state := He.fAd K ("_law_state", none)
    d__law_state := d_law_state
    F__law_state := F_law_state
    b__law_state := F_law_state.binds (ps := ["_law_script"]) fun _ _ _ _ _ _ us hl => match us, hl with | [_], _ => rfl
    m__law_state := He.glo_ok X G (c.t.d.fact 1 (f := .glo "_law_state") rfl)
    a__law_draw := He.fAd K ("_law_draw", none)
    d__law_draw := d_law_draw
    F__law_draw := F_law_draw
    b__law_draw := F_law_draw.binds (ps := ["_law_state_here", "_law_many"]) fun _ _ _ _ _ _ us hl => match us, hl with | [_, _], _ => rfl
    m__law_draw := He.glo_ok X G (c.t.d.fact 2 (f := .glo "_law_draw") rfl)
    a__law_names := He.fAd K ("_law_names", none)
    d__law_names := d_law_names
    F__law_names := F_law_names
    b__law_names := F_law_names.binds (ps := ["_law_state_here", "_law_many"]) fun _ _ _ _ _ _ us hl => match us, hl with | [_, _], _ => rfl
    m__law_names := He.glo_ok X G (c.t.d.fact 3 (f := .glo "_law_names") rfl)
    a__law_kinds := He.fAd K ("_law_kinds", none)
    d__law_kinds := d_law_kinds
    F__law_kinds := F_law_kinds
    b__law_kinds := F_law_kinds.binds (ps := []) fun _ _ _ _ _ _ us hl => match us, hl with | [], _ => rfl
    m__law_kinds := He.glo_ok X G (c.t.d.fact 4 (f := .glo "_law_kinds") rfl)
    a__law_pairs := He.fAd K ("_law_pairs", none)
    d__law_pairs := d_law_pairs
    F__law_pairs := F_law_pairs
    b__law_pairs := F_law_pairs.binds (ps := ["_law_state_here", "_law_names_here", "_law_most_pairs"]) fun _ _ _ _ _ _ us hl => match us, hl with | [_, _, _], _ => rfl
    m__law_pairs := He.glo_ok X G (c.t.d.fact 5 (f := .glo "_law_pairs") rfl)
    a__law_ordered := He.fAd K ("_law_ordered", none)
    d__law_ordered := d_law_ordered
    F__law_ordered := F_law_ordered
    b__law_ordered := F_law_ordered.binds (ps := ["_law_kinds_here", "_law_pairs_here"]) fun _ _ _ _ _ _ us hl => match us, hl with | [_, _], _ => rfl
    m__law_ordered := He.glo_ok X G (c.t.d.fact 6 (f := .glo "_law_ordered") rfl)
    a__law_refused := He.fAd K ("_law_refused", none)
    d__law_refused := d_law_refused
    F__law_refused := F_law_refused
    b__law_refused := F_law_refused.binds (ps := ["_law_pairs_here"]) fun _ _ _ _ _ _ us hl => match us, hl with | [_], _ => rfl
    m__law_refused := He.glo_ok X G (c.t.d.fact 7 (f := .glo "_law_refused") rfl)
    a__law_is := He.fAd K ("_law_is", none)
    d__law_is := d_law_is
    F__law_is := F_law_is
    b__law_is := F_law_is.binds (ps := ["_law_verdict", "_law_due"]) fun _ _ _ _ _ _ us hl => match us, hl with | [_, _], _ => rfl
    m__law_is := He.glo_ok X G (c.t.d.fact 8 (f := .glo "_law_is") rfl)
    a__law_first_part := He.fAd K ("_law_first_part", none)
    d__law_first_part := d_law_first_part
    F__law_first_part := F_law_first_part
    b__law_first_part := F_law_first_part.binds (ps := ["_law_script"]) fun _ _ _ _ _ _ us hl => match us, hl with | [_], _ => rfl
    m__law_first_part := He.glo_ok X G (c.t.d.fact 9 (f := .glo "_law_first_part") rfl)
    a__law_second_part := He.fAd K ("_law_second_part", none)
    d__law_second_part := d_law_second_part
    F__law_second_part := F_law_second_part
    b__law_second_part := F_law_second_part.binds (ps := ["_law_script"]) fun _ _ _ _ _ _ us hl => match us, hl with | [_], _ => rfl
    m__law_second_part := He.glo_ok X G (c.t.d.fact 10 (f := .glo "_law_second_part") rfl)
    a_law := He.fAd K ("law", none)
    d_law := d_law
    F_law := F_law
    b_law := F_law.binds (ps := ["_law_script"]) fun _ _ _ _ _ _ us hl => match us, hl with | [_], _ => rfl
    m_law := He.glo_ok X G (c.t.d.fact 11 (f := .glo "law") rfl)
    c_ToldError := He.ga K "ToldError"
    m_ToldError := He.glo_ok X G (c.t.d.fact 30 (f := .glo "ToldError") rfl)
    c_InvalidKind := He.ga K "InvalidKind"
    m_InvalidKind := He.glo_ok X G (c.t.d.fact 31 (f := .glo "InvalidKind") rfl)
    x_InvalidKind := E_InvalidKind.1
    xi_InvalidKind := E_InvalidKind.2.1
    xt_InvalidKind := E_InvalidKind.2.2.1
    n_InvalidKind_kind := E_InvalidKind.2.2.2.1
    xa_InvalidKind := E_InvalidKind.2.2.2.2.ga
    xg_InvalidKind := E_InvalidKind.2.2.2.2.gg
    xh_InvalidKind := E_InvalidKind.2.2.2.2.hdC
    xe_InvalidKind := He.exm_ok (c.t.d.fact 32 (f := .exm "InvalidKind" "InvalidKind" true) rfl)
    c_Verdict := He.ga K "Verdict"
    m_Verdict := He.glo_ok X G (c.t.d.fact 33 (f := .glo "Verdict") rfl)
    l_Verdict := He.cls_ok (c.t.d.fact 12 (f := .cls "Verdict") rfl)
    k_Verdict := He.mkr_ok (c.t.d.fact 34 (f := .mkr "Verdict") rfl)
    n_Verdict__pairs := He.noat_ok (c.t.d.fact 35 (f := .noat "Verdict" "_pairs") rfl)
    t_Verdict_pairs := He.meth_ok (c.t.d.fact 36 (f := .meth "Verdict" "pairs") rfl)
    t_Verdict_kinds := He.meth_ok (c.t.d.fact 37 (f := .meth "Verdict" "kinds") rfl)
    t_Verdict_only := He.meth_ok (c.t.d.fact 38 (f := .meth "Verdict" "only") rfl)
    i_Verdict := ownB_ok (He.cls_ok (c.t.d.fact 12 (f := .cls "Verdict") rfl)) f_own
    a_KINDS := He.ga K "KINDS"
    c_KINDS := He.glo_ok X G (c.t.d.fact 13 (f := .glo "KINDS") rfl)
    w_KINDS := fun H => tupB_ok f_kin H
    xq_Verdict := He.eqO_ok f_q
    xo_Verdict := He.eqO_ok f_o
    xa_Verdict := He.eqO_ok f_a
    xs_Verdict := He.eqO_ok f_s
    xl_Verdict := He.eqO_ok f_l
    xc_Verdict := He.eqO_ok f_c
    xfq_Verdict := f_fq
    xfo_Verdict := f_fo
    xfa_Verdict := f_fa
    xfs_Verdict := f_fs
    xfl_Verdict := f_fl
    xfc_Verdict := f_fc
    xb_Verdict := He.eqO_ok f_bool
    xm_Verdict := f_self
  }, fun s u => law_binds (ps := ["_law_script"]) F_law (fun _ _ _ _ _ _ us hl => match us, hl with | [_], _ => rfl) s [u] rfl⟩
abbrev R : PySem.W.OpenRow := PySem.W.OpenLaw.row PySem.Challenge.rw_toldonward_k50_verdict_pairs
def as_ : List Addr := [3, 24, 23, 44, 43, 124, 123, 47, 41, 40, 54, 53, 66, 65, 73, 72, 78, 77, 83, 82, 90, 89, 95, 94, 100, 99, 107, 106, 114, 113, 121, 120, 135, 134, 142, 141, 149, 148, 156, 155, 163, 162, 168, 167, 175, 174, 182, 181, 187, 186, 192, 191, 199, 198]
abbrev hk : PySem.W.Hook := hookV as_ fa fn ts us ex
def ob (s : PySem.W.SharedT) : AlU := obsV as_ fa fn ts us ex (HandSHeadRun.getT s)
theorem ob_eq (s : PySem.W.SharedT) : ob s = hk.obs s.abs := obsV_eq (HandSHeadRun.getT_eq s)
def loose0 : List Str := ["ToldError", "InvalidKind", "KINDS", "check_kind", "Verdict", "_law_state", "_law_draw", "_law_names", "_law_kinds", "_law_pairs", "_law_ordered", "_law_refused", "_law_is", "_law_first_part", "_law_second_part"]
def loose : List Str := loose0
end K50
namespace K50
open PySem PySem.Spec PyProof.Rows L2 Td
abbrev RunOk (w : World) : Prop := HandSHeadRun.RunEq R (PySem.W.view R.prog [19]) hk ob 8000 loose w
theorem run_f (w : World) : RunOk (w.withFollow "special-get-raises" false) := by
  intro os
  kernel_rfl
theorem run_t (w : World) : RunOk (w.withFollow "special-get-raises" true) := by
  intro os
  kernel_rfl
theorem run (w : World) : HandSHeadRun.RunEq R (PySem.W.view R.prog [19]) hk ob 8000 loose w := PySem.W.byRow2 "special-get-raises" (P := RunOk) run_f run_t w
end K50
open PySem PySem.W PySem.Calls PyProof.Rows
set_option maxRecDepth 100000 in
set_option maxHeartbeats 0 in
theorem PySem.Challenge.cw_toldonward_k50_verdict_pairs_holds : PySem.Challenge.rw_toldonward_k50_verdict_pairs.Holds := by
  w_on; o_law
  refine HandSHeadRun.head_any (r := OpenLaw.row PySem.Challenge.rw_toldonward_k50_verdict_pairs) (q := view (OpenLaw.row PySem.Challenge.rw_toldonward_k50_verdict_pairs).prog [19]) (H := K50.hk) (ob := K50.ob) (M := 8000) (loose := K50.loose) (d := HandSHeadRun.topDef (OpenLaw.row PySem.Challenge.rw_toldonward_k50_verdict_pairs).prog 19) (kwd := []) K50.ob_eq
    (by kernel_rfl) (fun s => by kernel_rfl) K50.run (by kernel_rfl) (by kernel_rfl) (by kernel_rfl) (by rfl) (by first | assumption | decide +kernel) (by decide +kernel) ⟨rfl, rfl, rfl, rfl, rfl, by decide +kernel⟩ ?hw ?hc
  case hw => w_witness2
  case hc =>
    refine L2.walk_ofE (l := PySem.Challenge.rw_toldonward_k50_verdict_pairs) (n := 63) (k := 10) (x := "_law_script") (CX := L2.CX0) rfl (by decide) (by kernel_rfl) ⟨rfl, by decide, by decide⟩ ?F (fun _ _ _ _ z => z)
    intro w mg fa h Y G hmg0
    obtain ⟨K, KX, c⟩ := Y
    have hmg : mg ("law" : PySem.Str) = some (.ref fa) := by
      have e : (HandSHeadRun.topDef (OpenLaw.row PySem.Challenge.rw_toldonward_k50_verdict_pairs).prog 19).name = ("law" : PySem.Str) := by kernel_rfl
      rw [← e]
      exact hmg0
    obtain ⟨T, hb⟩ := K50.tops KX G c
    have e := hmg.symm.trans T.m_law
    cases e
    exact ⟨K, T.d_law, K50.spLaw K, KX, hb, fun H a ns hl _ hS => ⟨a, ns, rfl, hS, hl, fun _ => rfl⟩, fun base _ _ => K50.law_of T⟩
