import PyProof.Rows.All
import Wide.All
import OpenK.AllK
import Wide.FinOn
import HandS.ForMost
import HandS.ForExc
import HandS.SetKeys
import HandS.Strs
import HandS.Set
import HandS.More
import HandS.Wide
import HandS.IsInst
import HandS.ExcInit
import HandS.CallLocal
import HandS.TupAny
import HandS.Codes
import KE.GoesEnum
import HandS.WrittenGet
import KE.KDictZip
import KE.GoesMore
import HandS.Zip
import HandS.ListItems
import KE.KItemsList
import HandS.Conv
import HandS.DeepEq
import PyProof.EqLayable
import HandS.Nested
import HandS.HeadWalk
import KE.KSuper
import HandS.HeadHook4
import HandS.HeadEnd
import HandS.Head2
import PySem.Challenge.RW_toldonward_k07_whole_runs_hang_on_their
set_option Elab.async false
set_option maxRecDepth 100000
set_option maxHeartbeats 0
set_option linter.all false
/-! Own rules beside the hand layer: for any program. -/
namespace TdSet
open PySem PySem.Spec PyProof.Rows SS
/-- how many different ones stand among the first i -/
def dcnt (xs : List Str) : Nat → Nat
  | 0 => 0
  | i + 1 => if (xs.take i).any (· == xs.getD i Str.empty) = true then dcnt xs i else dcnt xs i + 1
theorem dcnt_le (xs : List Str) : ∀ i, dcnt xs i ≤ i
  | 0 => Nat.le_refl _
  | i + 1 => by
    have := dcnt_le xs i
    unfold dcnt
    split <;> omega
theorem dcnt_full {xs : List Str} : ∀ {i : Nat}, i ≤ xs.length → dcnt xs i = i → (xs.take i).Nodup
  | 0, _, _ => by simp
  | i + 1, hi, h => by
    have hl := dcnt_le xs i
    unfold dcnt at h
    split at h
    · omega
    · rename_i hn
      have ih := dcnt_full (xs := xs) (i := i) (by omega) (by omega)
      have hx : i < xs.length := by omega
      rw [List.take_succ_eq_append_getElem hx]
      refine List.nodup_append.mpr ⟨ih, by simp, ?_⟩
      intro a ha b hb hab
      have e : b = xs[i] := by simpa using hb
      apply hn
      refine List.any_eq_true.mpr ⟨a, ha, ?_⟩
      rw [hab, e, List.getD_eq_getElem?_getD, List.getElem?_eq_getElem hx]
      simp
theorem dcnt_nodup {xs : List Str} : ∀ {i : Nat}, i ≤ xs.length → (xs.take i).Nodup → dcnt xs i = i
  | 0, _, _ => rfl
  | i + 1, hi, h => by
    have hx : i < xs.length := by omega
    rw [List.take_succ_eq_append_getElem hx] at h
    obtain ⟨h1, _, h3⟩ := List.nodup_append.mp h
    have ih := dcnt_nodup (xs := xs) (i := i) (by omega) h1
    unfold dcnt
    rw [if_neg, ih]
    intro hh
    obtain ⟨a, ha, hb⟩ := List.any_eq_true.mp hh
    rw [List.getD_eq_getElem?_getD, List.getElem?_eq_getElem hx] at hb
    exact h3 a ha xs[i] (by simp) (by simpa using hb)
/-- the set at S has met the first i texts -/
def Met (prog : Program) (w : World) (S : Addr) (xs : List Str) (i : Nat) (h : Heap) : Prop := h.SetOf (PySem.strKind prog w) S (fun z => (xs.take i).any (· == z)) (dcnt xs i)
theorem Met.move {prog : Program} {w : World} {S : Addr} {xs : List Str} {i : Nat} {h h' : Heap} (m : Met prog w S xs i h) (k : ∀ o, h.get? S = some o → h'.get? S = some o) : Met prog w S xs i h' := by
  obtain ⟨o, es, ep, tb, e, r⟩ := m
  exact ⟨o, es, ep, tb, k o e, r⟩
/-- one text more -/
theorem Met.more {prog : Program} {w : World} {S : Addr} {xs : List Str} {i : Nat} {h : Heap} {z : Str} (hz : xs[i]? = some z)
    (m : h.SetOf (PySem.strKind prog w) S (fun y => (xs.take i).any (· == y) || decide (y = z)) (if (xs.take i).any (· == z) = true then dcnt xs i else dcnt xs i + 1)) : Met prog w S xs (i + 1) h := by
  have e : xs.take (i + 1) = xs.take i ++ [z] := by rw [List.take_add_one, hz]; rfl
  refine SetOf_congr m (fun y => ?_) ?_
  · rw [e, List.any_append]
    congr 1
    by_cases q : y = z
    · rw [q]; simp
    · have : ¬ z = y := fun h => q h.symm
      simp [q, this]
  · show _ = (if (xs.take i).any (· == xs.getD i Str.empty) = true then dcnt xs i else dcnt xs i + 1)
    rw [List.getD_eq_getElem?_getD, hz]
    rfl
section
variable {prog : Program} {w : World} {A : Around} {R : Result → Shared → Prop} {I S : Addr} {fp wr : List Addr} {G : Array GenState → Array GenState → Prop} {i : Nat} {P : Nat → Value → Prop} {St : Nat → Shared → Prop} {xs : List Str} {s : Shared}
/-- an iterator whose item i is the text i of xs -/
structure Turns (prog : Program) (w : World) (A : Around) (I : Addr) (fp wr : List Addr) (G : Array GenState → Array GenState → Prop) (xs : List Str) (P : Nat → Value → Prop) (St : Nat → Shared → Prop) : Prop where
  walks : WalksS prog w A I fp wr G xs.length P St
  texts : ∀ i v, P i v → ∃ z t, xs[i]? = some z ∧ v = .str z t
/-- the loop's code, one round of it -/
theorem round_of (h : wpAny (model prog w) A.in1 (Builtin.«set.update.loop» ⟨[.ref S, .ref I], []⟩) (fun fin s' => match fin with | .done f => R (.ok f) s' | .again c => c.quiet = true ∧ codeAny (model prog w) A c R s') (fun e s' => R (.error e) s') s) :
    codeAny (model prog w) A (.builtin "set.update.loop" ⟨[.ref S, .ref I], []⟩) R s :=
  codeAny_builtin PyProof.Rows.F.entry_set_update_loop (by rw [Around.under_plainId PyProof.Rows.F.plain_set_update_loop _]; exact h)
theorem last_round (W : Turns prog w A.in1 I fp wr G xs P St) (ns : S ∉ wr) (hst : St xs.length s) (hS : Met prog w S xs xs.length s.heap)
    (fin : ∀ s', Moved wr G s s' → Met prog w S xs xs.length s'.heap → R (.ok (.ret .none)) s') : codeAny (model prog w) A (.builtin "set.update.loop" ⟨[.ref S, .ref I], []⟩) R s :=
  round_of (wpAny_bind (W.walks.done s _ _ hst fun s' hm => wpAny_pure (fin s' hm (hS.move fun o e => hm.heap S o ns e))))
theorem next_round (W : Turns prog w A.in1 I fp wr G xs P St) (hf : S ∉ fp) (hn : xs.length < 4000) (hi : i < xs.length) (hst : St i s) (hS : Met prog w S xs i s.heap)
    (go : ∀ s', St (i + 1) s' → Met prog w S xs (i + 1) s'.heap → Moved (S :: wr) G s s' → codeAny (model prog w) A (.builtin "set.update.loop" ⟨[.ref S, .ref I], []⟩) R s') :
    codeAny (model prog w) A (.builtin "set.update.loop" ⟨[.ref S, .ref I], []⟩) R s := by
  refine round_of (wpAny_bind (W.walks.item i s _ _ hi hst fun v s1 hv st1 m1 => ?_))
  obtain ⟨z, t, hz, rfl⟩ := W.texts i v hv
  have hd := dcnt_le xs i
  have S1 := hS.move fun o e => m1.heap S o (fun h => hf (W.walks.sub _ h)) e
  refine wpAny_bind (wpAny_holding (wpAny_holding (wpAny_bind ((PySem.strKind prog w).pyHash (k := z) (strKind_is _ _ _ _) (wpAny_setAddHashed_of (knd := PySem.strKind prog w) (s := { s1 with toks := s1.toks + 1 }) (strKind_is _ _ _ _) rfl S1 (by unfold scanBound; omega) fun h2 sb S2 => ?_)))))
  have keep : ∀ b o, b ≠ S → s1.heap.get? b = some o → h2.get? b = some o := fun b o nb e => by rw [sb.2 b nb]; exact e
  refine wpAny_pure ⟨plainId_quiet PyProof.Rows.F.plain_set_update_loop _, go _ (W.walks.frame _ s1 _ _ st1 (Nat.le_succ _) fun b hb o e => keep b o (fun q => hf (q ▸ hb)) e) (Met.more hz S2) ?_⟩
  exact (m1.mono fun b hb => List.mem_cons_of_mem _ hb).then_heap (Nat.le_succ _) fun b o hb e => keep b o (fun q => hb (q ▸ List.mem_cons_self)) e
theorem rounds (W : Turns prog w A.in1 I fp wr G xs P St) (hf : S ∉ fp) (hn : xs.length < 4000) : ∀ (left i : Nat) (s : Shared), i + left = xs.length → St i s → Met prog w S xs i s.heap →
    (∀ s', Moved (S :: wr) G s s' → Met prog w S xs xs.length s'.heap → R (.ok (.ret .none)) s') → codeAny (model prog w) A (.builtin "set.update.loop" ⟨[.ref S, .ref I], []⟩) R s
  | 0, i, s, e, st, m, fin => by
    have e : i = xs.length := e
    subst e
    exact last_round W (fun h => hf (W.walks.sub _ h)) st m fun s' mv m' => fin s' (mv.mono fun b hb => List.mem_cons_of_mem _ hb) m'
  | left + 1, i, s, e, st, m, fin =>
    next_round W hf hn (by omega) st m fun s1 st1 m1 mv1 => rounds W hf hn left (i + 1) s1 (by omega) st1 m1 fun s2 mv2 m2 => fin s2 (Moved.trans W.walks.gtrans mv1 mv2) m2
end
section
variable {prog : Program} {w : World} {A : Around} {E : Value → Shared → Prop} {s : Shared}
/-- the new set's own beginning: it takes the tuple's texts -/
theorem init_texts {R : Result → Shared → Prop} {S l : Addr} {o : Obj} {items : Array Value} {xs : List Str} {led : Bool} (hh : A.handled = none) (hS : s.heap.get? S = some { cls := .type "set", dict := none, data := .set #[] 0 (.fresh 0 0 led) })
    (ho : s.heap.get? l = some o) (hc : o.cls = .type "tuple") (hd : ∃ nl, o.data = .seq items nl) (hne : l ≠ S) (hi : PyProof.Rows.StrsAre items.toList xs) (hn : xs.length < 4000)
    (fin : ∀ (h' : Heap) (tk : Nat), Met prog w S xs xs.length h' → (∀ b u, b ≠ S → s.heap.get? b = some u → h'.get? b = some u) → R (.ok (.ret .none)) { s with heap := h', toks := tk }) :
    wpAny (model prog w) A.in1 (Builtin.«set.__init__» ⟨[.ref S, .ref l], []⟩) (fun fin s' => match fin with | .done f => R (.ok f) s' | .again c => c.quiet = true ∧ codeAny (model prog w) A c R s') (fun e s' => R (.error e) s') s := by
  have ht : s.heap.IsTuple l items := let ⟨nl, e⟩ := hd; ⟨o, ho, hc, nl, e⟩
  have q1 : s.TypeIs (.ref l) "tuple" := ⟨o, ho, hc⟩
  have q2 := PySem.F.sub_tuple_set
  have q3 := PySem.F.sub_tuple_frozenset
  have q4 : (Value.type "tuple" == Value.type "dict") = false := by decide
  unfold Builtin.«set.__init__» noKeywords Builtin.Frozenset.updateFrom
  generalize ePI : pyIter = PI
  wp_walk
  subst ePI
  refine wpAny_pyIter_tuple ht (wpAny_bind (wpAny_runValue ?_))
  have sz : (s.heap.push { cls := .type "tuple_iterator", data := .fields #[.ref l, .int 0 0] }).objs.size = s.heap.objs.size + 1 := Heap.size_push ..
  have lS : S < s.heap.objs.size := Heap.lt_size hS
  have ll : l < s.heap.objs.size := Heap.lt_size ho
  have len : xs.length = items.size := by rw [← StrsAre.len_eq hi, Array.length_toList]
  have W0 := (Walks.tuple (prog := prog) (w := w) (A := A.in1.in1) (by simpa using hh) s.heap.objs.size l (Nat.ne_of_lt ll) items).toS
  rw [← len] at W0
  have nf : S ∉ [s.heap.objs.size, l] := fun m => by
    rcases List.mem_cons.mp m with e | e
    · exact absurd (e ▸ lS) (Nat.lt_irrefl _)
    · exact hne (List.mem_singleton.mp e).symm
  have M0 : Met prog w S xs 0 (s.heap.push { cls := .type "tuple_iterator", data := .fields #[.ref l, .int 0 0] }) :=
    PyProof.Rows.SetOf_congr ((PyProof.Rows.setObjOf_fresh (knd := PySem.strKind prog w) led).setOf (Heap.get?_push_of_some _ hS) (by unfold scanBound; omega)) (fun _ => rfl) rfl
  refine rounds ⟨W0, fun i v hv => ?_⟩ nf hn xs.length 0 { s with heap := s.heap.push { cls := .type "tuple_iterator", data := .fields #[.ref l, .int 0 0] } } (Nat.zero_add _) ⟨⟨_, Heap.get?_push_size _ rfl, rfl, rfl⟩, ht.push _⟩ M0 fun s2 mv m => ?_
  · obtain ⟨t, e⟩ := strs_at hi i v (by rw [Array.getElem?_toList]; exact hv)
    have hx : i < xs.length := by rw [len]; exact (Array.getElem?_eq_some_iff.mp hv).1
    exact ⟨xs[i], t, List.getElem?_eq_getElem hx, by rw [e, List.getD_eq_getElem?_getD, List.getElem?_eq_getElem hx]; rfl⟩
  · obtain ⟨h2, g2, d2, t2, o2⟩ := s2
    cases (show g2 = s.gens from mv.gens)
    cases (show d2 = s.drawn from mv.drawn)
    cases (show o2 = s.os from mv.os)
    refine wpAny_pure (wpAny_pure (fin h2 t2 m fun b u nb e => mv.heap b u (fun q => ?_) (Heap.get?_push_of_some _ e)))
    rcases List.mem_cons.mp q with q | q
    · exact nb q
    · have := Heap.lt_size e
      rw [List.mem_singleton.mp q] at this
      exact Nat.lt_irrefl _ this
end
section
variable {prog : Program} {w : World} {A : Around} {E : Value → Shared → Prop} {s : Shared}
/-- set(x), over what the new set begins with -/
theorem set_by {x : Value} {Q : Value → Shared → Prop} (go : ∀ led : Bool, wpAny (model prog w) A.in1.in1 (Builtin.«set.__init__» ⟨[.ref s.heap.objs.size, x], []⟩)
      (fun fin s' => match fin with | .done f => wants (fun r s2 => r = .none ∧ s2.TypeIs (.ref s.heap.objs.size) "set" ∧ Q (.ref s.heap.objs.size) s2) E (.ok f) s' | .again c => c.quiet = true ∧ codeAny (model prog w) A.in1 c (wants (fun r s2 => r = .none ∧ s2.TypeIs (.ref s.heap.objs.size) "set" ∧ Q (.ref s.heap.objs.size) s2) E) s')
      (fun e s' => wants (fun r s2 => r = .none ∧ s2.TypeIs (.ref s.heap.objs.size) "set" ∧ Q (.ref s.heap.objs.size) s2) E (.error e) s')
      { s with heap := s.heap.push { cls := .type "set", dict := none, data := .set #[] 0 (.fresh 0 0 led) } }) :
    wpAny (model prog w) A (call (.type "set") [x]) Q E s := by
  have k1 := PySem.F.called_set
  obtain ⟨c, tl, k2⟩ := k1.mro
  have k3 := k1.made
  have k4 := k1.sub
  have k5 := k1.notType
  have k6 := k1.canCreate
  have k7 := PySem.F.typeCall_set_1 x
  refine wpAny_call (codeAny_of_tree (wpAny_pure ⟨Code.quiet_builtin _ (by decide +kernel), codeAny_builtin PySem.F.entry_type_call ?_⟩))
  rw [Around.under_plain (weight_type_call_type "set" [x] []) rfl]
  repeat (any_goals (first | assumption | wp_step))
  refine codeAny_mono (code_set_new_1 x (E := E) (Q₁ := fun y s1 => ∃ led : Bool, y = .ref s.heap.objs.size ∧ s1 = { s with heap := s.heap.push { cls := .type "set", dict := none, data := .set #[] 0 (.fresh 0 0 led) } }) fun led => ⟨led, rfl, rfl⟩) fun r s1 hr => ?_
  match r, hr with
  | .error e, hr => exact hr
  | .ok (.ret y), hr =>
    obtain ⟨led, rfl, rfl⟩ := hr
    have k8 := k1.init.lookup
    have k9 := k1.init.bind (.ref s.heap.objs.size)
    have ty : Shared.TypeIs { s with heap := s.heap.push { cls := .type "set", dict := none, data := .set #[] 0 (.fresh 0 0 led) } } (.ref s.heap.objs.size) "set" := ⟨_, Heap.get?_push_size _ rfl, rfl⟩
    repeat (any_goals (first | assumption | wp_step))
    refine codeAny_mono (codeAny_call_builtin k1.init.plain PySem.F.entry_set_init (check_set_init_1 ty (go led))) fun r2 s2 h2 => ?_
    match r2, h2 with
    | .error e, h2 => exact h2
    | .ok (.ret y), h2 =>
      obtain ⟨rfl, ty2, q⟩ := h2
      repeat (any_goals (first | assumption | wp_step))
/-- set(t) of a tuple of texts -/
theorem set_of_texts {l : Addr} {items : Array Value} {xs : List Str} {Q : Value → Shared → Prop} (hh : A.handled = none) (hl : s.heap.IsTuple l items) (hi : PyProof.Rows.StrsAre items.toList xs) (hn : xs.length < 4000)
    (q : ∀ (h' : Heap) (tk : Nat), Met prog w s.heap.objs.size xs xs.length h' → (∀ b u, s.heap.get? b = some u → h'.get? b = some u) → Q (.ref s.heap.objs.size) { s with heap := h', toks := tk }) :
    wpAny (model prog w) A (call (.type "set") [.ref l]) Q E s := by
  obtain ⟨o, ho, hc, hd⟩ := hl
  have lt := Heap.lt_size ho
  refine set_by fun led => init_texts (A := A.in1) (by simpa using hh) (Heap.get?_push_size _ rfl) (Heap.get?_push_of_some _ ho) hc hd (Nat.ne_of_lt lt) hi hn fun h' tk m k => ⟨rfl, ?_, q h' tk m fun b u e => k b u (Nat.ne_of_lt (Heap.lt_size e)) (Heap.get?_push_of_some _ e)⟩
  exact PySem.Heap.SetOf.typeIs (s := { s with heap := h', toks := tk }) m
end
end TdSet
namespace Td
open PySem PySem.Spec PyProof.Rows L2
section
variable {X : Cx}
/-- len(set(t)), t a tuple of texts -/
def tLenSetT (K : PySem.W.Frag) (t : TE) : TE := fun σ H Q => t σ H fun x H1 => ∃ (l : Addr) (xs : List Str), x = .ref l ∧ SqT K H1 l (xs.map V.str) ∧ xs.length < 4000 ∧ Q (.int (TdSet.dcnt xs xs.length : Nat)) H1
theorem pe_lenSetT {a : Expr} {t : TE} {p p2 q pos : Pos} (hc : X.calm = true) (g1 : Gl X "len") (m1 : X.mg "len" = none) (g2 : Gl X "set") (m2 : X.mg "set" = none) (ha : PE X a t)
    (na : starEach [a] X.env = (false, eval a X.env) :: starEach [] X.env := by rfl) (no : starEach [.Call (.Name "set" p2) [a] [] q] X.env = (false, eval (.Call (.Name "set" p2) [a] [] q) X.env) :: starEach [] X.env := by rfl) :
    PE X (.Call (.Name "len" p) [.Call (.Name "set" p2) [a] [] q] [] pos) (tLenSetT X.K t) := by
  refine ⟨fun pins s σ H Q I h => wpAny_Call_Name_kw (ld_blt I g1 m1 boot_len (PyProof.Rows.callWith_builtin1 (PyProof.Rows.args_cons (wpAny_Call_Name_kw (ld_blt I g2 m2 boot_set (PyProof.Rows.callWith_type1 (PyProof.Rows.args_cons (thn (ha.run pins s σ H _ I h) fun v s1 ⟨x, H1, I1, r1, l, xs, ex, hq, hn, k⟩ => PyProof.Rows.args_nil ?_) na) na rfl))) no) no rfl))⟩
  subst ex
  cases r1
  obtain ⟨us, r, tp, _⟩ := I1.tuple hq
  refine TdSet.set_of_texts (I1.ok.hd hc) tp (xs := xs) (by simpa using strsAre_of r) hn fun h' tk m kp => PyProof.Rows.args_nil ?_
  have J : Inv X pins σ H1 { s1 with heap := h', toks := tk } := I1.kept kp
  have dl := TdSet.dcnt_le xs xs.length
  obtain ⟨o, es, ep, tb, e1, e2, e3, _, _, _, e7, e8⟩ := m
  exact call_len_set e1 e2 e3 e7 (by rw [e8]; omega) ⟨.int (TdSet.dcnt xs xs.length : Nat), H1, J.tok _, ⟨_, by rw [e8]⟩, k⟩
end
/-- xs[i] op= e on a list -/
def rGetL : V → V → Hp → VK → Prop := fun o i H Q => ∃ p xs k v, o = .ref p ∧ i = .int k ∧ H p = some (.lst xs) ∧ atI xs k = some v ∧ Q v H
end Td
namespace Td
open PySem PySem.Spec PyProof.Rows L2
section
variable {X : Cx}
/-! ### a written dict, asked by .get -/
def KTab (K : PySem.W.Frag) (w : World) (a : Addr) : Prop :=
  ∃ es n, K.lookup a = some ⟨.type "dict", none, .dict es n, #[]⟩ ∧ PySem.W.KeysLit w.params es.toList ∧ (a == sysModules) = false
def tKGet (K : PySem.W.Frag) (w : World) (td ty : TE) : TE := fun σ H Q => td σ H fun x H1 => ∃ a, x = .ref a ∧ KTab K w a ∧
  ty σ H1 fun y H2 => ∃ z, y = .str z ∧ ((∃ v, KDct K w a z v ∧ Q v H2) ∨ (PySem.W.nsIn K a z = some none ∧ Q .non H2))
theorem pe_kget {o e : Expr} {td ty : TE} {apos cpos : Pos} (ho : PE X o td) (he : PE X e ty) (m : M1 X o "get" apos e cpos) :
    PE X (.Call (.Attribute o "get" apos) [e] [] cpos) (tKGet X.K X.w td ty) := by
  refine ⟨fun pins s σ H Q I h => ?_⟩
  refine wpAny_Call_method m.base m.few m.line PySem.F.plainAttrs_dict PySem.F.slot_dict_get PySem.F.type_dict_get
    (thn (ho.run pins s σ H _ I h) fun u s1 ⟨x, H1, I1, rx, a, ex, ⟨es, n, hl, hk, low⟩, q1⟩ => ?_)
  subst ex
  obtain rfl : u = Value.ref a := rx
  have hm := PySem.W.mapOf_K (prog := X.prog) (w := X.w) I1.kIn hl hk
  refine ⟨hm.typeIs, hm.noDict, ?_⟩
  rw [m.trees]
  refine Calls.callWith_builtin rfl (Calls.evalArgs_plain (Calls.spliced_cons
    (thn (he.run pins s1 σ H1 _ I1 q1) fun iv s2 ⟨y, H2, I2, ry, z, ey, q2⟩ => Calls.spliced_nil ?_)))
  subst ey
  obtain ⟨t, rfl⟩ := ry
  have hm2 := PySem.W.mapOf_K (prog := X.prog) (w := X.w) I2.kIn hl hk
  rcases q2 with ⟨v, ⟨es', n', u0, hl', hk', e0, ru⟩, q⟩ | ⟨e0, q⟩
  · refine call_meetsIn PySem.F.slot_dict_get hm2.typeIs PySem.F.entry_dict_get (PySem.F.args_dict_get_2 _ _)
      (meets_dict_get (strKind X.prog X.w) a (strKind_is X.prog X.w z t) low) ⟨_, hm2, ?_⟩
    have := PySem.W.find_K hl e0
    rw [this]
    exact ⟨v, H2, I2.tok _, ru, q⟩
  · refine call_meetsIn PySem.F.slot_dict_get hm2.typeIs PySem.F.entry_dict_get (PySem.F.args_dict_get_2 _ _)
      (meets_dict_get (strKind X.prog X.w) a (strKind_is X.prog X.w z t) low) ⟨_, hm2, ?_⟩
    have := PySem.W.find_K hl e0
    rw [this]
    exact ⟨.non, H2, I2.tok _, rfl, q⟩

/-! ### xs[i] of a list, by values -/
def rGetLi (K : PySem.W.Frag) : V → V → Hp → VK → Prop := fun o i H Q => ∃ (p : Addr) (xs : List V) (k : Nat) (v : V), o = .ref p ∧ i = .int (k : Nat) ∧ SqL K H p xs ∧ xs[k]? = some v ∧ Q v H
theorem get_list : PGet X (rGetLi X.K) := by
  intro pins s σ H o i ov iv Q I ro ri h
  obtain ⟨p, xs, k, v, rfl, rfl, hp, hv, q⟩ := h
  obtain ⟨its, r, pl, hz⟩ := I.list hp
  obtain rfl : ov = Value.ref p := ro
  obtain ⟨t, rfl⟩ := ri
  obtain ⟨w, ew, rw'⟩ := r.get hv
  have hn := line63
  have hk := (List.getElem?_eq_some_iff.mp hv).1
  have fin : EP X pins σ Q w s := ⟨v, H, I, rw', q⟩
  exact wpAny_getItem_list pl.isList (by omega) (by omega) (by rw [Int.toNat_natCast, List.getElem?_toArray]; exact ew) fin
end
/-! ### enumerate of a tuple -/
def IteT (K : PySem.W.Frag) (a : Addr) : It :=
  ⟨fun i H => ∃ (xs : List V) (x : V), SqT K H a xs ∧ xs[i]? = some x,
   fun i H v H' => ∃ T x, v = .ref T ∧ H T = none ∧ H' = upd H T (.tup [.int (i : Nat), x]) ∧ ∀ xs, SqT K H a xs → xs[i]? = some x,
   fun i H => ∃ xs : List V, SqT K H a xs ∧ xs.length = i⟩
theorem turn_enumT {P : Program} {w : World} {K : PySem.W.Frag} {elts : List Expr} {kk : Nat} {tpos : Pos} (a e it : Addr) :
    Turn P w K (.Tuple elts kk tpos) (IteT K a) [e, it] e
      (fun i h => (∃ old, IsEnum h e it ((i : Nat) : Int) old) ∧ h.IsTupleIter it a i ∧ e ≠ it) where
  mem := by simp
  obj := fun i h st b hb => by
    obtain ⟨⟨old, he⟩, ⟨o, ho, hc, hd⟩, _⟩ := st
    have e' : b = e ∨ b = it := by simpa using hb
    rcases e' with z | z
    · subst z; exact ⟨_, he, fun v q => nomatch q⟩
    · subst z; exact ⟨o, ho, fun v q => by rw [hd] at q; cases q⟩
  keep := fun i h h' st k => by
    obtain ⟨⟨old, he⟩, hi, hne⟩ := st
    exact ⟨⟨old, k e (by simp) _ he⟩, hi.at fun o q => k it (by simp) o q, hne⟩
  item := by
    intro X hP hw hK hc i pins s σ H E I hf st hg
    subst hP hw hK
    obtain ⟨⟨old, he⟩, hit, hne⟩ := st
    obtain ⟨xs, x, hq, hx⟩ := hg
    obtain ⟨its, rv, p, hz⟩ := I.tuple hq
    obtain ⟨u, hu, ru⟩ := rv.get hx
    have hel : e < s.heap.objs.size := Heap.lt_size he
    have hil : it < s.heap.objs.size := by obtain ⟨_, q, _⟩ := hit; exact Heap.lt_size q
    have hai : a ≠ it := fun z => by
      obtain ⟨o1, g1, c1, _⟩ := hit
      obtain ⟨o2, g2, c2, _⟩ := p
      rw [z, g1] at g2
      cases g2
      rw [c1] at c2
      exact absurd c2 (by decide)
    have hae : a ≠ e := fun z => by
      obtain ⟨o2, g2, c2, _⟩ := p
      rw [z, show s.heap.get? e = some _ from he] at g2
      cases g2
      change Value.type "enumerate" = Value.type "tuple" at c2
      exact absurd c2 (by decide)
    have hh : X.A.in1.handled = none := by simp [I.ok.hd hc]
    have D := Draws.tuple (prog := X.prog) (w := X.w) hh it a hai its.toArray
    have hlt : i < its.toArray.size := by
      rw [List.size_toArray, ← rv.length]
      exact (List.getElem?_eq_some_iff.mp hx).1
    refine wpAny_pyNext_enum_itemD D he ⟨hit, p⟩ hlt hne (by simp [hne, Ne.symm hae]) fun y h' tk hy ho hit' hT hsz hk => ?_
    have hyu : y = u := by
      have : its.toArray[i]? = some y := hy
      rw [List.getElem?_toArray, hu] at this
      exact (Option.some.inj this).symm
    subst hyu
    refine ⟨_, rfl, wpAny_letOwnedTupleGo_enum (s := { s with heap := h', toks := tk + 1 }) ho fun h2 he2 sb => ?_⟩
    have hT2 : h2.get? s.heap.objs.size = some { cls := .type "tuple", data := .seq #[.int i tk, y] } :=
      (sb.2 _ (Nat.ne_of_gt hel)).trans hT
    have new : ObjOk X.prog X.w (upd H s.heap.objs.size (.tup [.int (i : Nat), x])) h2 s.heap.objs.size (.tup [.int (i : Nat), x]) :=
      ⟨by show 2 ≤ sizeLine; decide, [.int i tk, y], .cons ⟨_, rfl⟩ (.cons ru .nil), ⟨_, hT2, rfl, _, rfl⟩⟩
    have I1 : L2.Inv X pins σ (upd H s.heap.objs.size (.tup [.int (i : Nat), x])) { s with heap := h2, toks := tk + 1 } :=
      I.turnedNew (ch := [e, it]) (fun b ob hb q => (sb.2 b (fun z => hb (by simp [z]))).trans
        (hk b ob (fun z => hb (by simp [z])) (fun z => hb (by simp [z])) q)) hf (Nat.le_refl _) new
    refine ⟨.ref s.heap.objs.size, _, I1, rfl, ⟨_, x, rfl, I.hok.fresh (Nat.le_refl _), rfl, fun ys hy => by rw [I.tuple_inj hy hq]; exact hx⟩,
      ⟨⟨y, ?_⟩, hit'.1.at fun o q => (sb.2 it (Ne.symm hne)).trans q, hne⟩, fun b hb => ?_⟩
    · have e1 : ((i + 1 : Nat) : Int) = (i : Int) + 1 := by omega
      rw [e1]; exact he2
    · have hb' : b < s.heap.objs.size := by
        have e' : b = e ∨ b = it := by simpa using hb
        rcases e' with z | z
        · subst z; exact hel
        · subst z; exact hil
      rw [upd_ne (Nat.ne_of_lt hb')]
      exact (hf b hb).1
  done := by
    intro X hP hw hK hc i pins s σ H E I hf st hg
    subst hP hw hK
    obtain ⟨⟨old, he⟩, hit, hne⟩ := st
    obtain ⟨xs, hq, hx⟩ := hg
    obtain ⟨its, rv, p, hz⟩ := I.tuple hq
    obtain ⟨f0, f1, f2, f3, f4, f5⟩ := hf it (by simp)
    have hai : a ≠ it := fun z => by
      obtain ⟨o1, g1, c1, _⟩ := hit
      obtain ⟨o2, g2, c2, _⟩ := p
      rw [z, g1] at g2
      cases g2
      rw [c1] at c2
      exact absurd c2 (by decide)
    have hh : X.A.in1.handled = none := by simp [I.ok.hd hc]
    have D := Draws.tuple (prog := X.prog) (w := X.w) hh it a hai its.toArray
    have hn : its.toArray.size = i := by rw [List.size_toArray, ← rv.length]; exact hx
    refine wpAny_pyNext_enum_endD D he ⟨by rw [hn]; exact hit, p⟩ fun h' eb => ⟨rfl, I.turned (t' := s.toks) (fun b o hb q => eb b o hb q) f0 f1 f3 f4 f5⟩
  self := fun A i s Q E st h => let ⟨⟨_, he⟩, _⟩ := st; wpAny_pyIter_enum he h

/-- enumerate(t) made -/
theorem meets_enumT {v : Value} {o : Obj} {H : Heap → Prop} (B : Begins v o H) :
    Meets (Builtin.«enumerate.__new__» ⟨[.type "enumerate", v], []⟩) (fun _ R s => H s.heap ∧
      R (.ok (.ret (.ref (s.heap.push o).objs.size)))
        { s with heap := (s.heap.push o).push { cls := .type "enumerate", data := .fields #[.none, .bool false, .ref s.heap.objs.size, rawInt 0, .none, .none] } }) :=
  .of_wp fun prog w A R s h => by
    obtain ⟨hp, g, d, tk, os⟩ := s; obtain ⟨h1, h⟩ := h
    have hsub := sub_enumerate
    have q1 : ∀ {A' : Around} {E : Value → Shared → Prop} {Q : Value → Shared → Prop}, Q (.ref hp.objs.size) ⟨hp.push o, g, d, tk, os⟩ →
        wpAny (model prog w) A' (pyIter v) Q E ⟨hp, g, d, tk, os⟩ := fun q => B.iter prog w _ _ ⟨hp, g, d, tk, os⟩ _ h1 q
    wp_walk using q1
    refine wpAny_stack_any fun st => wpAny_pure ?_
    split
    · rename_i c _ _ _ _ _
      cases (c == Value.type "enumerate")
      · wp_walk using q1
        exact ⟨_, rfl, h⟩
      · wp_walk using q1
        exact ⟨_, rfl, h⟩
    · wp_walk using q1
      exact ⟨_, rfl, h⟩
def iEnumT (K : PySem.W.Frag) (ta : TA) : TI := fun σ H R => ta σ H fun vs H1 => ∃ a xs, vs = [.ref a] ∧ SqT K H1 a xs ∧ R (IteT K a) H1
theorem pi_enumT {X : Cx} {e : Expr} {ta : TA} {p pos tpos : Pos} {elts : List Expr} {kk : Nat} (hg : Gl X "enumerate") (hm : X.mg "enumerate" = none)
    (ha : PA X [e] ta) (hs : starEach [e] X.env = [(false, eval e X.env)] := by rfl) :
    PI X (.Tuple elts kk tpos) (.Call (.Name "enumerate" p) [e] [] pos) (iEnumT X.K ta) := by
  refine ⟨fun pins s σ H R I h => ?_⟩
  refine Call_ (ld_blt I hg hm boot_enumerate (PyProof.Rows.callWith_type1 (thn (ha.run pos pins s σ H _ I h) fun us s1 ⟨vs, H1, I1, r1, q1⟩ => ?_) hs rfl))
  obtain ⟨a, xs, ex, hq, q⟩ := q1
  subst ex
  cases r1 with
  | cons r rr =>
    cases rr
    cases r
    obtain ⟨its, rv, p', hz⟩ := I1.tuple hq
    refine callType_new F.called_enumerate (by decide) (F.typeCall_enumerate_1 _) (F.newCall_enumerate_1 _) (fun obj => F.args_object_init_2 obj _)
      F.entry_enumerate_new (meets_enumT (begins_tuple a its.toArray)) ⟨p', ?_⟩
    have z1 : (s1.heap.push { cls := .type "tuple_iterator", data := .fields #[.ref a, .int 0 0] }).objs.size = s1.heap.objs.size + 1 := Heap.size_push ..
    show _ ∧ _
    rw [z1]
    have he : IsEnum ((s1.heap.push { cls := .type "tuple_iterator", data := .fields #[.ref a, .int 0 0] }).push
        { cls := .type "enumerate", data := .fields #[.none, .bool false, .ref s1.heap.objs.size, rawInt 0, .none, .none] })
        (s1.heap.objs.size + 1) s1.heap.objs.size 0 .none := by
      have := Heap.get?_push_size (s1.heap.push { cls := .type "tuple_iterator", data := .fields #[.ref a, .int 0 0] })
        (o := { cls := .type "enumerate", data := .fields #[.none, .bool false, .ref s1.heap.objs.size, rawInt 0, .none, .none] }) rfl
      rw [z1] at this; exact this
    refine ⟨⟨_, he, rfl⟩, ?_⟩
    refine wpAny_pyIter_enum he ?_
    have I2 : L2.Inv X pins σ H1 ⟨(s1.heap.push { cls := .type "tuple_iterator", data := .fields #[.ref a, .int 0 0] }).push { cls := .type "enumerate", data := .fields #[.none, .bool false, .ref s1.heap.objs.size, rawInt 0, .none, .none] }, s1.gens, s1.drawn, s1.toks, s1.os⟩ :=
      I1.kept (t' := s1.toks) fun b o x => Heap.get?_push_of_some _ (Heap.get?_push_of_some _ x)
    refine ⟨s1.heap.objs.size + 1, [s1.heap.objs.size + 1, s1.heap.objs.size], _, _, H1, rfl, I2, turn_enumT a (s1.heap.objs.size + 1) s1.heap.objs.size,
      ⟨⟨.none, he⟩, ⟨_, Heap.get?_push_of_some _ (Heap.get?_push_size _ rfl), rfl, rfl⟩, Nat.succ_ne_self _⟩, fun b hb => ?_, q⟩
    have e' : b = s1.heap.objs.size + 1 ∨ b = s1.heap.objs.size := by simpa using hb
    have hle : s1.heap.objs.size ≤ b := by
      rcases e' with z | z
      · rw [z]; exact Nat.le_succ _
      · rw [z]; exact Nat.le_refl _
    exact I1.fpOk hle (I1.hok.fresh hle)
end Td
/-! Data: what stays, data in the heap, names, rows. -/
namespace Td
open PySem PySem.Spec PyProof.Rows L2

/-! ### what stays while the object at st changes -/
def Keep (st : Addr) (H H' : Hp) : Prop := ∀ b o, b ≠ st → H b = some o → H' b = some o
theorem Keep.refl (st : Addr) (H : Hp) : Keep st H H := fun _ _ _ h => h
theorem Keep.trans {st : Addr} {H H1 H2 : Hp} (a : Keep st H H1) (b : Keep st H1 H2) : Keep st H H2 := fun c o n h => b c o n (a c o n h)
theorem Keep.upd {st : Addr} {H : Hp} {o : HO} : Keep st H (upd H st o) := fun b u n h => by rw [upd_ne n]; exact h
theorem Keep.new {st p : Addr} {H : Hp} {o : HO} (h : H p = none) : Keep st H (L2.upd H p o) := fun b u n e => by
  rw [upd_ne (ne_of_none e h)]; exact e
theorem Keep.free {st p : Addr} {H H' : Hp} (k : Keep st H H') (n : p ≠ st) (h : H' p = none) : H p = none := by
  cases e : H p with
  | none => rfl
  | some o => rw [k p o n e] at h; cases h
/-- an object that was not there at first is changed -/
theorem Keep.own {st p : Addr} {H H' : Hp} {o : HO} (k : Keep st H H') (h : H p = none) : Keep st H (L2.upd H' p o) := fun b u nb e => by
  rw [upd_ne (ne_of_none e h)]; exact k b u nb e
theorem Same.new {H : Hp} {p : Addr} (h : H p = none) (o : HO) : Same H (upd H p o) := fun b u e => by
  rw [upd_ne (ne_of_none e h)]; exact e
theorem Same.keep {H H' : Hp} (h : Same H H') (st : Addr) : Keep st H H' := fun b o _ e => h b o e

/-! ### immutable and mutable data, away from st -/
section
variable {K : PySem.W.Frag} {H H' : Hp} {a : Addr} {xs : List V}
theorem SqT.same (s : Same H H') (h : SqT K H a xs) : SqT K H' a xs := by
  rcases h with (h | ⟨o, h⟩) | h
  · exact .inl (.inl (s _ _ h))
  · exact .inl (.inr ⟨o, s _ _ h⟩)
  · exact .inr h
theorem SqL.same (s : Same H H') (h : SqL K H a xs) : SqL K H' a xs := s.seq h
theorem SqT.keep {st : Addr} (s : Keep st H H') (n : a ≠ st) (h : SqT K H a xs) : SqT K H' a xs := by
  rcases h with (h | ⟨o, h⟩) | h
  · exact .inl (.inl (s _ _ n h))
  · exact .inl (.inr ⟨o, s _ _ n h⟩)
  · exact .inr h
theorem SqL.keep {st : Addr} (s : Keep st H H') (n : a ≠ st) (h : SqL K H a xs) : SqL K H' a xs := by
  rcases h with (h | ⟨o, h⟩) | h
  · exact .inl (.inl (s _ _ n h))
  · exact .inl (.inr ⟨o, s _ _ n h⟩)
  · exact .inr h
end
mutual
/-- data at a value, none of its objects at st -/
inductive Dn (K : PySem.W.Frag) (st : Addr) (H : Hp) : V → PyData → Prop
  | non : Dn K st H .non .none
  | bl (b : Bool) : Dn K st H (.bl b) (.bool b)
  | int (i : Int) : Dn K st H (.int i) (.int i)
  | str (x : Str) : Dn K st H (.str x) (.str x)
  | lst {a : Addr} {xs : List V} {ds : List PyData} : a ≠ st → SqL K H a xs → DnAll K st H xs ds → Dn K st H (.ref a) (.list ds)
  | tup {a : Addr} {xs : List V} {ds : List PyData} : a ≠ st → SqT K H a xs → DnAll K st H xs ds → Dn K st H (.ref a) (.tuple ds)
inductive DnAll (K : PySem.W.Frag) (st : Addr) (H : Hp) : List V → List PyData → Prop
  | nil : DnAll K st H [] []
  | cons {v : V} {vs : List V} {d : PyData} {ds : List PyData} : Dn K st H v d → DnAll K st H vs ds → DnAll K st H (v :: vs) (d :: ds)
end
section
variable {K : PySem.W.Frag} {H H' : Hp} {st : Addr}
mutual
theorem Dn.keep (s : Keep st H H') : ∀ {v : V} {d : PyData}, Dn K st H v d → Dn K st H' v d
  | _, _, .non => .non
  | _, _, .bl b => .bl b
  | _, _, .int b => .int b
  | _, _, .str b => .str b
  | _, _, .lst n q r => .lst n (SqL.keep s n q) (DnAll.keep s r)
  | _, _, .tup n q r => .tup n (SqT.keep s n q) (DnAll.keep s r)
theorem DnAll.keep (s : Keep st H H') : ∀ {v : List V} {d : List PyData}, DnAll K st H v d → DnAll K st H' v d
  | _, _, .nil => .nil
  | _, _, .cons a b => .cons (Dn.keep s a) (DnAll.keep s b)
end
mutual
theorem Dn.dp : ∀ {v : V} {d : PyData}, Dn K st H v d → Dp K H v d
  | _, _, .non => .non
  | _, _, .bl b => .bl b
  | _, _, .int b => .int b
  | _, _, .str b => .str b
  | _, _, .lst n q r => .lst q (DnAll.dp r)
  | _, _, .tup n q r => .tup q (DnAll.dp r)
theorem DnAll.dp : ∀ {v : List V} {d : List PyData}, DnAll K st H v d → DpAll K H v d
  | _, _, .nil => .nil
  | _, _, .cons a b => .cons (Dn.dp a) (DnAll.dp b)
end
mutual
theorem Dp.same (s : Same H H') : ∀ {v : V} {d : PyData}, Dp K H v d → Dp K H' v d
  | _, _, .non => .non
  | _, _, .bl b => .bl b
  | _, _, .int b => .int b
  | _, _, .str b => .str b
  | _, _, .lst q r => .lst (SqL.same s q) (DpAll.same s r)
  | _, _, .tup q r => .tup (SqT.same s q) (DpAll.same s r)
theorem DpAll.same (s : Same H H') : ∀ {v : List V} {d : List PyData}, DpAll K H v d → DpAll K H' v d
  | _, _, .nil => .nil
  | _, _, .cons a b => .cons (Dp.same s a) (DpAll.same s b)
end
theorem DpAll.length : ∀ {vs : List V} {ds : List PyData}, DpAll K H vs ds → vs.length = ds.length
  | _, _, .nil => rfl
  | _, _, .cons _ r => by rw [List.length_cons, List.length_cons, DpAll.length r]
theorem DpAll.get : ∀ {vs : List V} {ds : List PyData} {i : Nat} {v : V}, DpAll K H vs ds → vs[i]? = some v → ∃ d, ds[i]? = some d ∧ Dp K H v d
  | _, _, _, _, .nil, h => by simp at h
  | _, _, 0, _, .cons a _, h => by simp at h; subst h; exact ⟨_, rfl, a⟩
  | _, _, i + 1, v, .cons _ r, h => by
    obtain ⟨d, h1, h2⟩ := DpAll.get (i := i) (v := v) r (by simpa using h)
    exact ⟨d, by simpa using h1, h2⟩
theorem DpAll.append : ∀ {vs ws : List V} {ds es : List PyData}, DpAll K H vs ds → DpAll K H ws es → DpAll K H (vs ++ ws) (ds ++ es)
  | _, _, _, _, .nil, h => h
  | _, _, _, _, .cons a r, h => .cons a (DpAll.append r h)
theorem DpAll.strs (zs : List Str) : DpAll K H (zs.map V.str) (zs.map PyData.str) := by
  induction zs with
  | nil => exact .nil
  | cons z r ih => exact .cons (.str z) ih
theorem DnAll.strs (zs : List Str) : DnAll K st H (zs.map V.str) (zs.map PyData.str) := by
  induction zs with
  | nil => exact .nil
  | cons z r ih => exact .cons (.str z) ih
theorem DnAll.append : ∀ {vs ws : List V} {ds es : List PyData}, DnAll K st H vs ds → DnAll K st H ws es → DnAll K st H (vs ++ ws) (ds ++ es)
  | _, _, _, _, .nil, h => h
  | _, _, _, _, .cons a r, h => .cons a (DnAll.append r h)
theorem DnAll.length : ∀ {vs : List V} {ds : List PyData}, DnAll K st H vs ds → vs.length = ds.length
  | _, _, .nil => rfl
  | _, _, .cons _ r => by rw [List.length_cons, List.length_cons, DnAll.length r]
theorem DnAll.get : ∀ {vs : List V} {ds : List PyData} {i : Nat} {v : V}, DnAll K st H vs ds → vs[i]? = some v → ∃ d, ds[i]? = some d ∧ Dn K st H v d
  | _, _, _, _, .nil, h => by simp at h
  | _, _, 0, _, .cons a _, h => by simp at h; subst h; exact ⟨_, rfl, a⟩
  | _, _, i + 1, v, .cons _ r, h => by
    obtain ⟨d, h1, h2⟩ := DnAll.get (i := i) (v := v) r (by simpa using h)
    exact ⟨d, by simpa using h1, h2⟩
/-- a tuple's value -/
theorem Dp.tup_inv {v : V} {ds : List PyData} (h : Dp K H v (.tuple ds)) : ∃ a xs, v = .ref a ∧ SqT K H a xs ∧ DpAll K H xs ds := by
  cases h with
  | tup q r => exact ⟨_, _, rfl, q, r⟩
theorem Dn.tup_inv {v : V} {ds : List PyData} (h : Dn K st H v (.tuple ds)) : ∃ a xs, v = .ref a ∧ a ≠ st ∧ SqT K H a xs ∧ DnAll K st H xs ds := by
  cases h with
  | tup n q r => exact ⟨_, _, rfl, n, q, r⟩
theorem Dp.str_inv {v : V} {z : Str} (h : Dp K H v (.str z)) : v = .str z := by cases h; rfl
theorem Dn.str_inv {v : V} {z : Str} (h : Dn K st H v (.str z)) : v = .str z := by cases h; rfl
theorem DpAll.strs_inv : ∀ {vs : List V} {zs : List Str}, DpAll K H vs (zs.map PyData.str) → vs = zs.map V.str
  | vs, [], h => by cases h; rfl
  | vs, z :: zs, h => by
    cases h with
    | cons a r => cases a; rw [DpAll.strs_inv r]; rfl
theorem DnAll.strs_inv : ∀ {vs : List V} {zs : List Str}, DnAll K st H vs (zs.map PyData.str) → vs = zs.map V.str
  | vs, [], h => by cases h; rfl
  | vs, z :: zs, h => by
    cases h with
    | cons a r => cases a; rw [DnAll.strs_inv r]; rfl
theorem DnAll.of_dp_new {p : Addr} {o : HO} {vs : List V} {ds : List PyData} (h : DnAll K st H vs ds) (hp : H p = none) : DnAll K st (upd H p o) vs ds := DnAll.keep (Keep.new hp) h
theorem Dn.new {p : Addr} {o : HO} {v : V} {d : PyData} (h : Dn K st H v d) (hp : H p = none) : Dn K st (upd H p o) v d := Dn.keep (Keep.new hp) h
end

/-! ### names -/
def lowc (c : Nat) : Bool := decide (97 ≤ c) && decide (c ≤ 122)
def isNm (z : Str) : Bool := decide (1 ≤ z.length) && decide (z.length ≤ 8) && z.cps.toList.all lowc

/-! ### rows -/
inductive Row where
  | rd (pk : Bool) (c s : Str)
  | put (s w : Str)
  | give (s : Str)
  | say (s : Str)
  | wr (c s : Str)
  | ite (s w : Str) (y n : List Row)
mutual
def rowD : Row → PyData
  | .rd pk c s => .tuple [.str (if pk then "peek" else "read"), .str c, .str s]
  | .put s w => .tuple [.str "put", .str s, .str w]
  | .give s => .tuple [.str "give", .str s]
  | .say s => .tuple [.str "say", .str s]
  | .wr c s => .tuple [.str "write", .str c, .str s]
  | .ite s w y n => .tuple [.str "if", .str s, .str w, .tuple (rowsD y), .tuple (rowsD n)]
def rowsD : List Row → List PyData
  | [] => []
  | r :: rs => rowD r :: rowsD rs
end
theorem rowsD_length : ∀ rs, (rowsD rs).length = rs.length
  | [] => by unfold rowsD; rfl
  | r :: rs => by unfold rowsD; rw [List.length_cons, List.length_cons, rowsD_length rs]
theorem rowsD_append : ∀ rs ts, rowsD (rs ++ ts) = rowsD rs ++ rowsD ts
  | [], ts => by simp [rowsD]
  | r :: rs, ts => by simp only [List.cons_append, rowsD, rowsD_append rs ts]
theorem rowsD_get : ∀ {rs : List Row} {i : Nat} {r : Row}, rs[i]? = some r → (rowsD rs)[i]? = some (rowD r)
  | [], i, r, h => by simp at h
  | x :: rs, 0, r, h => by simp at h; subst h; unfold rowsD; rfl
  | x :: rs, i + 1, r, h => by
    unfold rowsD
    rw [List.getElem?_cons_succ]
    exact rowsD_get (by simpa using h)
mutual
def cnt : Row → Nat
  | .ite _ _ y n => 1 + cnts y + cnts n
  | .rd .. => 1
  | .put .. => 1
  | .give .. => 1
  | .say .. => 1
  | .wr .. => 1
def cnts : List Row → Nat
  | [] => 0
  | r :: rs => cnt r + cnts rs
end
theorem cnts_append : ∀ rs ts, cnts (rs ++ ts) = cnts rs + cnts ts
  | [], ts => by simp [cnts]
  | r :: rs, ts => by
    simp only [List.cons_append, cnts, cnts_append rs ts]; omega
/-- what the rows of a body may be and may name -/
structure Sc where
  eff : Bool
  words : List Str
  sources : List Str
  readable : List Str
mutual
def okR (S : Sc) (dep : Nat) : Row → Prop
  | .rd pk c s => (pk = true → S.eff = true) ∧ c ∈ S.readable ∧ isNm s = true
  | .put s w => isNm s = true ∧ w ∈ S.words
  | .give s => S.eff = false ∧ isNm s = true
  | .say s => S.eff = true ∧ isNm s = true
  | .wr c s => S.eff = true ∧ c ∈ S.sources ∧ isNm s = true
  | .ite s w y n => dep ≤ 3 ∧ isNm s = true ∧ w ∈ S.words ∧ okRs S (dep + 1) y ∧ okRs S (dep + 1) n
def okRs (S : Sc) (dep : Nat) : List Row → Prop
  | [] => True
  | r :: rs => okR S dep r ∧ okRs S dep rs
end
theorem okRs_append {S : Sc} {dep : Nat} : ∀ {rs ts}, okRs S dep rs → okRs S dep ts → okRs S dep (rs ++ ts)
  | [], ts, _, h => h
  | r :: rs, ts, h, h2 => by
    unfold okRs at h
    show okRs S dep (r :: (rs ++ ts))
    unfold okRs
    exact ⟨h.1, okRs_append h.2 h2⟩
theorem okRs_get {S : Sc} {dep : Nat} : ∀ {rs : List Row} {i : Nat} {r : Row}, okRs S dep rs → rs[i]? = some r → okR S dep r
  | [], i, r, _, h => by simp at h
  | x :: rs, 0, r, ok, h => by
    unfold okRs at ok
    simp at h; subst h; exact ok.1
  | x :: rs, i + 1, r, ok, h => by
    unfold okRs at ok
    exact okRs_get ok.2 (by simpa using h)
theorem okRs_one {S : Sc} {dep : Nat} {r : Row} (h : okR S dep r) : okRs S dep [r] := by
  unfold okRs
  exact ⟨h, by unfold okRs; trivial⟩
end Td
namespace Td
open PySem PySem.Spec PyProof.Rows L2
/-- an if whose test is known -/
theorem if_true_of {c : Bool} {A B : Prop} (hc : c = true) (h : A) : if c = true then A else B := by
  rw [if_pos hc]; exact h
theorem if_false_of {c : Bool} {A B : Prop} (hc : c = false) (h : B) : if c = true then A else B := by
  rw [hc, if_neg Bool.false_ne_true]; exact h
def rowTag : Row → Str
  | .rd pk _ _ => if pk then "peek" else "read"
  | .put .. => "put"
  | .give .. => "give"
  | .say .. => "say"
  | .wr .. => "write"
  | .ite .. => "if"
def isIte : Row → Bool
  | .ite .. => true
  | _ => false
theorem tag_if (r : Row) : decide (V.str (rowTag r) = V.str "if") = isIte r := by
  cases r with
  | rd pk c s =>
    cases pk
    · show decide (V.str "read" = V.str "if") = false; decide +kernel
    · show decide (V.str "peek" = V.str "if") = false; decide +kernel
  | put => show decide (V.str "put" = V.str "if") = false; decide +kernel
  | give => show decide (V.str "give" = V.str "if") = false; decide +kernel
  | say => show decide (V.str "say" = V.str "if") = false; decide +kernel
  | wr => show decide (V.str "write" = V.str "if") = false; decide +kernel
  | ite => show decide (V.str "if" = V.str "if") = true; decide +kernel
section
variable {K : PySem.W.Frag} {H H' : Hp} {st : Addr} {v : V}
/-- a row's tuple -/
theorem row_at {r : Row} (h : Dp K H v (rowD r)) : ∃ a xs, v = .ref a ∧ SqT K H a xs ∧ xs[0]? = some (.str (rowTag r)) := by
  cases r with
  | rd pk c s =>
    obtain ⟨a, xs, rfl, hS, hD⟩ := Dp.tup_inv (by unfold rowD at h; exact h)
    cases hD with | cons h1 _ => cases h1; exact ⟨a, _, rfl, hS, rfl⟩
  | put s w =>
    obtain ⟨a, xs, rfl, hS, hD⟩ := Dp.tup_inv (by unfold rowD at h; exact h)
    cases hD with | cons h1 _ => cases h1; exact ⟨a, _, rfl, hS, rfl⟩
  | give s =>
    obtain ⟨a, xs, rfl, hS, hD⟩ := Dp.tup_inv (by unfold rowD at h; exact h)
    cases hD with | cons h1 _ => cases h1; exact ⟨a, _, rfl, hS, rfl⟩
  | say s =>
    obtain ⟨a, xs, rfl, hS, hD⟩ := Dp.tup_inv (by unfold rowD at h; exact h)
    cases hD with | cons h1 _ => cases h1; exact ⟨a, _, rfl, hS, rfl⟩
  | wr c s =>
    obtain ⟨a, xs, rfl, hS, hD⟩ := Dp.tup_inv (by unfold rowD at h; exact h)
    cases hD with | cons h1 _ => cases h1; exact ⟨a, _, rfl, hS, rfl⟩
  | ite s w y n =>
    obtain ⟨a, xs, rfl, hS, hD⟩ := Dp.tup_inv (by unfold rowD at h; exact h)
    cases hD with | cons h1 _ => cases h1; exact ⟨a, _, rfl, hS, rfl⟩
theorem DpAll.inv2 {xs : List V} {d1 d2 : PyData} (h : DpAll K H xs [d1, d2]) : ∃ v1 v2, xs = [v1, v2] ∧ Dp K H v1 d1 ∧ Dp K H v2 d2 := by
  cases h with | cons a r => cases r with | cons b r => cases r; exact ⟨_, _, rfl, a, b⟩
theorem DpAll.inv3 {xs : List V} {d1 d2 d3 : PyData} (h : DpAll K H xs [d1, d2, d3]) : ∃ v1 v2 v3, xs = [v1, v2, v3] ∧ Dp K H v1 d1 ∧ Dp K H v2 d2 ∧ Dp K H v3 d3 := by
  cases h with | cons a r => obtain ⟨v2, v3, rfl, h2, h3⟩ := DpAll.inv2 r; exact ⟨_, _, _, rfl, a, h2, h3⟩
theorem DpAll.inv5 {xs : List V} {d1 d2 d3 d4 d5 : PyData} (h : DpAll K H xs [d1, d2, d3, d4, d5]) :
    ∃ v1 v2 v3 v4 v5, xs = [v1, v2, v3, v4, v5] ∧ Dp K H v1 d1 ∧ Dp K H v2 d2 ∧ Dp K H v3 d3 ∧ Dp K H v4 d4 ∧ Dp K H v5 d5 := by
  cases h with | cons a r => cases r with | cons b r => obtain ⟨v3, v4, v5, rfl, h3, h4, h5⟩ := DpAll.inv3 r; exact ⟨_, _, _, _, _, rfl, a, b, h3, h4, h5⟩
theorem rd_at {pk : Bool} {c s : Str} (h : Dp K H v (rowD (.rd pk c s))) : ∃ a, v = .ref a ∧ SqT K H a [.str (if pk then "peek" else "read"), .str c, .str s] := by
  obtain ⟨a, xs, rfl, hS, hD⟩ := Dp.tup_inv (by unfold rowD at h; exact h)
  obtain ⟨v1, v2, v3, rfl, h1, h2, h3⟩ := DpAll.inv3 hD
  cases h1; cases h2; cases h3
  exact ⟨a, rfl, hS⟩
theorem put_at {s c : Str} (h : Dp K H v (rowD (.put s c))) : ∃ a, v = .ref a ∧ SqT K H a [.str "put", .str s, .str c] := by
  obtain ⟨a, xs, rfl, hS, hD⟩ := Dp.tup_inv (by unfold rowD at h; exact h)
  obtain ⟨v1, v2, v3, rfl, h1, h2, h3⟩ := DpAll.inv3 hD
  cases h1; cases h2; cases h3
  exact ⟨a, rfl, hS⟩
theorem wr_at {s c : Str} (h : Dp K H v (rowD (.wr c s))) : ∃ a, v = .ref a ∧ SqT K H a [.str "write", .str c, .str s] := by
  obtain ⟨a, xs, rfl, hS, hD⟩ := Dp.tup_inv (by unfold rowD at h; exact h)
  obtain ⟨v1, v2, v3, rfl, h1, h2, h3⟩ := DpAll.inv3 hD
  cases h1; cases h2; cases h3
  exact ⟨a, rfl, hS⟩
theorem give_at {s : Str} (h : Dp K H v (rowD (.give s))) : ∃ a, v = .ref a ∧ SqT K H a [.str "give", .str s] := by
  obtain ⟨a, xs, rfl, hS, hD⟩ := Dp.tup_inv (by unfold rowD at h; exact h)
  obtain ⟨v1, v2, rfl, h1, h2⟩ := DpAll.inv2 hD
  cases h1; cases h2
  exact ⟨a, rfl, hS⟩
theorem say_at {s : Str} (h : Dp K H v (rowD (.say s))) : ∃ a, v = .ref a ∧ SqT K H a [.str "say", .str s] := by
  obtain ⟨a, xs, rfl, hS, hD⟩ := Dp.tup_inv (by unfold rowD at h; exact h)
  obtain ⟨v1, v2, rfl, h1, h2⟩ := DpAll.inv2 hD
  cases h1; cases h2
  exact ⟨a, rfl, hS⟩
theorem ite_at {s c : Str} {y n : List Row} (h : Dp K H v (rowD (.ite s c y n))) : ∃ a vy vn, v = .ref a ∧ SqT K H a [.str "if", .str s, .str c, vy, vn] ∧
    Dp K H vy (.tuple (rowsD y)) ∧ Dp K H vn (.tuple (rowsD n)) := by
  obtain ⟨a, xs, rfl, hS, hD⟩ := Dp.tup_inv (by unfold rowD at h; exact h)
  obtain ⟨v1, v2, v3, v4, v5, rfl, h1, h2, h3, h4, h5⟩ := DpAll.inv5 hD
  cases h1; cases h2; cases h3
  exact ⟨a, _, _, rfl, hS, h4, h5⟩
/-- the rows' items -/
theorem rows_at {rs : List Row} (h : Dp K H v (.tuple (rowsD rs))) : ∃ (a : Addr) (xs : List V), v = .ref a ∧ SqT K H a xs ∧ xs.length = rs.length ∧
    ∀ (i : Nat) (x : V), xs[i]? = some x → ∃ r, rs[i]? = some r ∧ Dp K H x (rowD r) := by
  obtain ⟨a, xs, rfl, hS, hD⟩ := Dp.tup_inv h
  have hl := DpAll.length hD
  rw [rowsD_length] at hl
  refine ⟨a, xs, rfl, hS, hl, fun i x hx => ?_⟩
  have hi : i < rs.length := by rw [← hl]; exact (List.getElem?_eq_some_iff.mp hx).1
  obtain ⟨d, h1, h2⟩ := DpAll.get hD hx
  have e := rowsD_get (List.getElem?_eq_getElem hi)
  rw [h1] at e
  exact ⟨_, List.getElem?_eq_getElem hi, by rw [← Option.some.inj e]; exact h2⟩
end
theorem take_more {α : Type} {l : List α} {i : Nat} {x : α} (h : l[i]? = some x) : l.take (i + 1) = l.take i ++ [x] := by
  have hi := (List.getElem?_eq_some_iff.mp h).1
  rw [List.take_succ_eq_append_getElem hi, (List.getElem?_eq_some_iff.mp h).2]
theorem cnts_take {rs : List Row} {i : Nat} {r : Row} (h : rs[i]? = some r) : cnts (rs.take (i + 1)) = cnts (rs.take i) + cnt r := by
  rw [take_more h, cnts_append]
  simp [cnts]
theorem cnt_pos : ∀ r, 1 ≤ cnt r
  | .ite _ _ y n => by unfold cnt; omega
  | .rd .. => by unfold cnt; exact Nat.le_refl _
  | .put .. => by unfold cnt; exact Nat.le_refl _
  | .give .. => by unfold cnt; exact Nat.le_refl _
  | .say .. => by unfold cnt; exact Nat.le_refl _
  | .wr .. => by unfold cnt; exact Nat.le_refl _
theorem cnt_flat : ∀ {r}, isIte r = false → cnt r = 1
  | .ite .., h => by cases h
  | .rd .., _ => rfl
  | .put .., _ => rfl
  | .give .., _ => rfl
  | .say .., _ => rfl
  | .wr .., _ => rfl
end Td
/-! Data of tuples, texts, numbers alone. -/
namespace Td
open PySem PySem.Spec PyProof.Rows L2
def TK (H H' : Hp) : Prop := (∀ b xs, H b = some (.tup xs) → H' b = some (.tup xs)) ∧ ∀ b o u, H b = some (.frz o u) → H' b = some (.frz o u)
theorem TK.refl (H : Hp) : TK H H := ⟨fun _ _ h => h, fun _ _ _ h => h⟩
theorem TK.trans {H H1 H2 : Hp} (a : TK H H1) (b : TK H1 H2) : TK H H2 := ⟨fun c xs h => b.1 c xs (a.1 c xs h), fun c o u h => b.2 c o u (a.2 c o u h)⟩
theorem TK.of_same {H H' : Hp} (s : Same H H') : TK H H' := ⟨fun c xs h => s c _ h, fun c o u h => s c _ h⟩
/-- what may change: no tuple, nothing locked -/
def Chg : Option HO → Prop
  | some (.tup _) => False
  | some (.frz _ _) => False
  | _ => True
theorem TK.of_keep {st : Addr} {H H' : Hp} (k : Keep st H H') (h : Chg (H st)) : TK H H' :=
  ⟨fun b xs e => k b _ (fun z => by rw [z] at e; rw [e] at h; exact h) e, fun b o u e => k b _ (fun z => by rw [z] at e; rw [e] at h; exact h) e⟩
theorem TK.upd {p : Addr} {H : Hp} {o : HO} (h : Chg (H p)) : TK H (L2.upd H p o) := TK.of_keep (st := p) Keep.upd h
mutual
inductive Tn (K : PySem.W.Frag) (H : Hp) : V → PyData → Prop
  | non : Tn K H .non .none
  | bl (b : Bool) : Tn K H (.bl b) (.bool b)
  | int (i : Int) : Tn K H (.int i) (.int i)
  | str (x : Str) : Tn K H (.str x) (.str x)
  | tup {a : Addr} {xs : List V} {ds : List PyData} : SqT K H a xs → TnAll K H xs ds → Tn K H (.ref a) (.tuple ds)
inductive TnAll (K : PySem.W.Frag) (H : Hp) : List V → List PyData → Prop
  | nil : TnAll K H [] []
  | cons {v : V} {vs : List V} {d : PyData} {ds : List PyData} : Tn K H v d → TnAll K H vs ds → TnAll K H (v :: vs) (d :: ds)
end
section
variable {K : PySem.W.Frag} {H H' : Hp} {st : Addr}
theorem SqT.tk {a : Addr} {xs : List V} (k : TK H H') (h : SqT K H a xs) : SqT K H' a xs := by
  rcases h with (h | ⟨o, h⟩) | h
  · exact .inl (.inl (k.1 _ _ h))
  · exact .inl (.inr ⟨o, k.2 _ _ _ h⟩)
  · exact .inr h
mutual
theorem Tn.keep (s : TK H H') : ∀ {v : V} {d : PyData}, Tn K H v d → Tn K H' v d
  | _, _, .non => .non
  | _, _, .bl b => .bl b
  | _, _, .int b => .int b
  | _, _, .str b => .str b
  | _, _, .tup q r => .tup (SqT.tk s q) (TnAll.keep s r)
theorem TnAll.keep (s : TK H H') : ∀ {v : List V} {d : List PyData}, TnAll K H v d → TnAll K H' v d
  | _, _, .nil => .nil
  | _, _, .cons a b => .cons (Tn.keep s a) (TnAll.keep s b)
end
mutual
theorem Tn.dp : ∀ {v : V} {d : PyData}, Tn K H v d → Dp K H v d
  | _, _, .non => .non
  | _, _, .bl b => .bl b
  | _, _, .int b => .int b
  | _, _, .str b => .str b
  | _, _, .tup q r => .tup q (TnAll.dp r)
theorem TnAll.dp : ∀ {v : List V} {d : List PyData}, TnAll K H v d → DpAll K H v d
  | _, _, .nil => .nil
  | _, _, .cons a b => .cons (Tn.dp a) (TnAll.dp b)
end
theorem TnAll.strs (zs : List Str) : TnAll K H (zs.map V.str) (zs.map PyData.str) := by
  induction zs with
  | nil => exact .nil
  | cons z r ih => exact .cons (.str z) ih
theorem TnAll.append : ∀ {vs ws : List V} {ds es : List PyData}, TnAll K H vs ds → TnAll K H ws es → TnAll K H (vs ++ ws) (ds ++ es)
  | _, _, _, _, .nil, h => h
  | _, _, _, _, .cons a r, h => .cons a (TnAll.append r h)
theorem TnAll.length : ∀ {vs : List V} {ds : List PyData}, TnAll K H vs ds → vs.length = ds.length
  | _, _, .nil => rfl
  | _, _, .cons _ r => by rw [List.length_cons, List.length_cons, TnAll.length r]
theorem TnAll.one {v : V} {d : PyData} (h : Tn K H v d) : TnAll K H [v] [d] := .cons h .nil
theorem Tn.tup_inv {v : V} {ds : List PyData} (h : Tn K H v (.tuple ds)) : ∃ (a : Addr) (xs : List V), v = .ref a ∧ SqT K H a xs ∧ TnAll K H xs ds := by
  cases h with
  | tup q r => exact ⟨_, _, rfl, q, r⟩
theorem TnAll.get : ∀ {vs : List V} {ds : List PyData} {i : Nat} {v : V}, TnAll K H vs ds → vs[i]? = some v → ∃ d, ds[i]? = some d ∧ Tn K H v d
  | _, _, _, _, .nil, h => by simp at h
  | _, _, 0, _, .cons a _, h => by simp at h; subst h; exact ⟨_, rfl, a⟩
  | _, _, i + 1, v, .cons _ r, h => by
    obtain ⟨d, h1, h2⟩ := TnAll.get (i := i) (v := v) r (by simpa using h)
    exact ⟨d, by simpa using h1, h2⟩
theorem TnAll.strs_inv : ∀ {vs : List V} {zs : List Str}, TnAll K H vs (zs.map PyData.str) → vs = zs.map V.str
  | vs, [], h => by cases h; rfl
  | vs, z :: zs, h => by
    cases h with
    | cons a r => cases a; rw [TnAll.strs_inv r]; rfl
/-- a new tuple -/
theorem Tn.new {p : Addr} {xs : List V} {ds : List PyData} (h : TnAll K H xs ds) (hp : H p = none) : Tn K (upd H p (.tup xs)) (.ref p) (.tuple ds) :=
  .tup (SqT.of upd_same) (TnAll.keep (TK.of_same (Same.new hp _)) h)
end
/-! ### an if whose second way is shown once -/
def tIfC (c : TT) (t u : TS) : TS := fun D σ H => ∃ Mid : Hp → Prop, (c σ H fun b H1 => if b = true then t D σ H1 else Mid H1) ∧ ∀ H1, Mid H1 → u D σ H1
theorem ps_ifC {X : Cx} {c : Expr} {a b : List Stmt} {tc : TT} {t u : TS} {pos : Pos} (hc : PT X c tc) (ha : PSs X a t) (hb : PSs X b u) : PS X (.If c a b pos) (tIfC tc t u) := by
  refine ⟨fun pins s σ H D I h => ?_⟩
  obtain ⟨Mid, h, hu⟩ := h
  refine wpAny_If (thn (hc.run pins s σ H _ I h) fun d s1 ⟨H1, I1, q1⟩ => ?_)
  cases d with
  | true => exact ha.run pins s1 σ H1 D I1 q1
  | false => exact hb.run pins s1 σ H1 D I1 (hu H1 q1)
end Td
/-! The parts of a program. -/
namespace Td
open PySem PySem.Spec PyProof.Rows L2
/-- a list of different names -/
structure Names (ns : List Str) : Prop where
  good : ∀ z ∈ ns, isNm z = true
  nd : ns.Nodup
structure PP where
  words : List Str
  sources : List Str
  derived : List (Str × List Row)
  effects : List (Str × List Row)
def pairD (p : Str × List Row) : PyData := .tuple [.str p.1, .tuple (rowsD p.2)]
def strsD (zs : List Str) : PyData := .tuple (zs.map PyData.str)
def pairsD (ps : List (Str × List Row)) : PyData := .tuple (ps.map pairD)
def PP.data (p : PP) : PyData := .tuple [strsD p.words, strsD p.sources, pairsD p.derived, pairsD p.effects]
def PP.names (p : PP) : List Str := p.sources ++ p.derived.map (·.1) ++ p.effects.map (·.1)
def PP.cells (p : PP) : List Str := p.sources ++ p.derived.map (·.1)
/-- not too many rows; the last of them may be a give or a say beyond the room -/
def Lim (eff : Bool) (most : Nat) (rs : List Row) : Prop := cnts rs ≤ most ∧ ∃ rs0 t, rs = rs0 ++ t ∧ cnts rs0 + 1 ≤ most ∧ (t = [] ∨ ∃ s, t = [if eff then Row.say s else Row.give s])
/-- derived bodies are right, each behind the cells ahead of it -/
def okDer (words sources : List Str) (most : Nat) : List Str → List (Str × List Row) → Prop
  | _, [] => True
  | rd, p :: r => okRs ⟨false, words, sources, rd⟩ 1 p.2 ∧ Lim false most p.2 ∧ okDer words sources most (rd ++ [p.1]) r
def okEff (words sources rd : List Str) (most : Nat) : List (Str × List Row) → Prop
  | [] => True
  | p :: r => okRs ⟨true, words, sources, rd⟩ 1 p.2 ∧ Lim true most p.2 ∧ okEff words sources rd most r
structure PP.Ok (p : PP) (most : Nat) : Prop where
  w2 : 2 ≤ p.words.length
  w4 : p.words.length ≤ 4
  s1 : 1 ≤ p.sources.length
  s4 : p.sources.length ≤ 4
  d6 : p.derived.length ≤ 6
  e4 : p.effects.length ≤ 4
  wn : Names p.words
  nn : Names p.names
  der : okDer p.words p.sources most p.sources p.derived
  eff : okEff p.words p.sources p.cells most p.effects
theorem okDer_snoc {words sources : List Str} {most : Nat} : ∀ {ps : List (Str × List Row)} {rd : List Str} {p : Str × List Row}, okDer words sources most rd ps →
    okRs ⟨false, words, sources, rd ++ ps.map (·.1)⟩ 1 p.2 → Lim false most p.2 → okDer words sources most rd (ps ++ [p])
  | [], rd, p, _, h1, h2 => by
    show okDer words sources most rd [p]
    unfold okDer
    exact ⟨by simpa using h1, h2, by unfold okDer; trivial⟩
  | q :: ps, rd, p, h, h1, h2 => by
    show okDer words sources most rd (q :: (ps ++ [p]))
    unfold okDer at h ⊢
    refine ⟨h.1, h.2.1, okDer_snoc h.2.2 ?_ h2⟩
    simpa using h1
theorem okEff_snoc {words sources rd : List Str} {most : Nat} : ∀ {ps : List (Str × List Row)} {p : Str × List Row}, okEff words sources rd most ps →
    okRs ⟨true, words, sources, rd⟩ 1 p.2 → Lim true most p.2 → okEff words sources rd most (ps ++ [p])
  | [], p, _, h1, h2 => by
    show okEff words sources rd most [p]
    unfold okEff
    exact ⟨h1, h2, by unfold okEff; trivial⟩
  | q :: ps, p, h, h1, h2 => by
    show okEff words sources rd most (q :: (ps ++ [p]))
    unfold okEff at h ⊢
    exact ⟨h.1, h.2.1, okEff_snoc h.2.2 h1 h2⟩
theorem Names.sub {ns ms : List Str} (h : Names ns) (s : ms.Sublist ns) : Names ms := ⟨fun z hz => h.good z (s.subset hz), h.nd.sublist s⟩
/-- the keys of the shape -/
def shp (k c s sl w : V) : List (Key × V) := [(.inr "kind", k), (.inr "cells", c), (.inr "sources", s), (.inr "slots", sl), (.inr "words", w)]
def shp7 (k c s sl w p r : V) : List (Key × V) := [(.inr "kind", k), (.inr "cells", c), (.inr "sources", s), (.inr "slots", sl), (.inr "words", w), (.inr "peeks", p), (.inr "writes", r)]
def shp6 (k c s sl w p : V) : List (Key × V) := [(.inr "kind", k), (.inr "cells", c), (.inr "sources", s), (.inr "slots", sl), (.inr "words", w), (.inr "peeks", p)]
section
variable (k c s sl w p r k' c' p' r' : V)
theorem shp_merge : mergeK [] (shp k c s sl w) = shp k c s sl w := by kernel_rfl
theorem shp_peeks : putK (shp k c s sl w) (.inr "peeks") p = shp6 k c s sl w p := by kernel_rfl
theorem shp_writes : putK (shp6 k c s sl w p) (.inr "writes") r = shp7 k c s sl w p r := by kernel_rfl
theorem shp7_cells : putK (shp7 k c s sl w p r) (.inr "cells") c' = shp7 k c' s sl w p r := by kernel_rfl
theorem shp7_kind : putK (shp7 k c s sl w p r) (.inr "kind") k' = shp7 k' c s sl w p r := by kernel_rfl
theorem shp7_peeks : putK (shp7 k c s sl w p r) (.inr "peeks") p' = shp7 k c s sl w p' r := by kernel_rfl
theorem shp7_writes : putK (shp7 k c s sl w p r) (.inr "writes") r' = shp7 k c s sl w p r' := by kernel_rfl
theorem get_words : valV (shp7 k c s sl w p r) (.inr "words") = some w := by kernel_rfl
theorem get_slots : valV (shp7 k c s sl w p r) (.inr "slots") = some sl := by kernel_rfl
theorem get_cells : valV (shp7 k c s sl w p r) (.inr "cells") = some c := by kernel_rfl
theorem get_sources : valV (shp7 k c s sl w p r) (.inr "sources") = some s := by kernel_rfl
theorem get_kind : valV (shp7 k c s sl w p r) (.inr "kind") = some k := by kernel_rfl
theorem get_peeks : valV (shp7 k c s sl w p r) (.inr "peeks") = some p := by kernel_rfl
theorem get_writes : valV (shp7 k c s sl w p r) (.inr "writes") = some r := by kernel_rfl
end
theorem inV_strs (z : Str) (ws : List Str) : inV (.str z) (ws.map V.str) = decide (z ∈ ws) := by
  induction ws with
  | nil => rfl
  | cons y r ih =>
    show (eqV (.str y) (.str z) || inV (.str z) (r.map V.str)) = _
    rw [ih]
    have e : eqV (.str y) (.str z) = decide (z = y) := by
      show (_ : Bool) = _
      by_cases h : z = y
      · subst h; simp [eqV]
      · simp [eqV, h]
        intro h'; exact h h'.symm
    rw [e]
    simp
theorem flat_strs (ws : List Str) : (ws.map V.str).all flatV = true := by
  rw [List.all_eq_true]; intro y hy; obtain ⟨u, _, rfl⟩ := List.mem_map.mp hy; rfl
theorem cut_from1 (xs : List V) : cutV xs (some 1) none = xs.drop 1 := by
  unfold cutV
  rw [HT.sIx_none, show HT.sIx xs.length 0 (some 1) = min 1 xs.length from HT.sIx_nat _ _ 1]
  rcases xs with _ | ⟨x, r⟩
  · rfl
  · show ((x :: r).drop (min 1 (r.length + 1))).take ((r.length + 1) - min 1 (r.length + 1)) = _
    rw [show min 1 (r.length + 1) = 1 by omega]
    simp
theorem cut_to (xs : List V) (k : Nat) (h : k ≤ xs.length) : cutV xs none (some (k : Int)) = xs.take k := by
  unfold cutV
  rw [HT.sIx_none, HT.sIx_nat, List.drop_zero, Nat.sub_zero, Nat.min_eq_left h]
theorem not_whole1 {xs : List V} (h : xs ≠ []) (hi : Option Int) : ¬ (HT.sIx xs.length 0 (some 1) = 0 ∧ HT.sIx xs.length xs.length hi = xs.length) := by
  rintro ⟨e, _⟩
  rw [show HT.sIx xs.length 0 (some 1) = min 1 xs.length from HT.sIx_nat _ _ 1] at e
  have := List.length_pos_iff.mpr h
  omega
/-- the words with another one at the end -/
theorem Names.turn {ws : List Str} {z : Str} (h : Names ws) (hz : isNm z = true) (hn : z ∉ ws) : Names (ws.drop 1 ++ [z]) := by
  refine ⟨fun y hy => ?_, ?_⟩
  · rcases List.mem_append.mp hy with q | q
    · exact h.good y (List.mem_of_mem_drop q)
    · rw [List.mem_singleton.mp q]; exact hz
  · refine List.nodup_append.mpr ⟨h.nd.sublist (List.drop_sublist 1 ws), by simp, fun a ha b hb e => ?_⟩
    have : b = z := by simpa using hb
    subst this
    subst e
    exact hn (List.mem_of_mem_drop ha)
end Td
/-! Loops over texts and enumerated tuples; a call of one of several defs. -/
namespace Td
open PySem PySem.Spec PyProof.Rows L2
theorem tYes_of {σ : L2.St} {H : Hp} {A B : Hp → Prop} (h : A H) : tYes σ H (fun b H3 => if b = true then A H3 else B H3) := by
  show (if true = true then A H else B H)
  exact iteT h
theorem lc_str {z : Str} {g : TG} {tt : TT} {te : TE} {vs : List Nat} {σ : L2.St} {H1 : Hp} {D : Addr} {Qd : Hp → Prop} (Pv : Nat → Hp → Prop) (h0 : Pv 0 (upd H1 D (.lst [])))
    (hs : ∀ (i c : Nat) (H : Hp), z.cps[i]? = some c → Pv i H → g (.str ⟨#[c]⟩) (wipe σ vs) H fun σ2 H2 => wipe σ2 vs = wipe σ vs ∧ tt σ2 H2 fun b H3 =>
      if b = true then te σ2 H3 fun y H4 => ∃ acc, H4 D = some (.lst acc) ∧ acc.length < sizeLine ∧ Pv (i + 1) (upd H4 D (.lst (acc ++ [y]))) else Pv (i + 1) H3) (hd : ∀ H, Pv z.cps.size H → Qd H) :
    ∃ W : Nat → Nat → Hp → Prop, (∃ m, W 0 m (upd H1 D (.lst []))) ∧ ∀ i m H, W i m H →
      ((Its z).stop i H ∧ Qd H) ∨ ((Its z).go i H ∧ ∃ Nx : Hp → Prop, (∀ H', Nx H' → ∃ m', m' < m ∧ W (i + 1) m' H') ∧ ∀ x H', (Its z).yld i H x H' → g x (wipe σ vs) H' fun σ2 H2 => wipe σ2 vs = wipe σ vs ∧ tt σ2 H2 fun b H3 =>
        if b = true then te σ2 H3 fun y H4 => ∃ acc, H4 D = some (.lst acc) ∧ acc.length < sizeLine ∧ Nx (upd H4 D (.lst (acc ++ [y]))) else Nx H3) := by
  refine ⟨fun i m H => m = z.cps.size - i ∧ i ≤ z.cps.size ∧ Pv i H, ⟨z.cps.size, by simp, Nat.zero_le _, h0⟩, ?_⟩
  rintro i m H ⟨rfl, hi, p⟩
  by_cases hlt : i < z.cps.size
  · refine .inr ⟨hlt, Pv (i + 1), fun H' p' => ⟨z.cps.size - (i + 1), by omega, rfl, hlt, p'⟩, fun x H' y => ?_⟩
    obtain ⟨e, c, hc, ex⟩ := y
    subst e
    subst ex
    exact hs i c _ hc p
  · have e : i = z.cps.size := by omega
    subst e
    exact .inl ⟨Nat.le_refl _, hd H p⟩
theorem for_enumT {K : PySem.W.Frag} {a : Addr} {xs : List V} {g : TG} {tb : TS} {D : Ends} {σ : L2.St} {H : Hp} (Pv : Nat → L2.St → Hp → Prop) (h0 : Pv 0 σ H) (hl : ∀ i σ H, i ≤ xs.length → Pv i σ H → SqT K H a xs)
    (hs : ∀ (i : Nat) (x : V) (σ : L2.St) (H : Hp) (T : Addr), xs[i]? = some x → Pv i σ H → H T = none → g (.ref T) σ (upd H T (.tup [.int (i : Nat), x])) fun σ2 H2 => tb { D with nx := Pv (i + 1), ct := Pv (i + 1), bk := D.nx } σ2 H2)
    (hd : ∀ σ H, Pv xs.length σ H → D.nx σ H) :
    ∃ W : Nat → Nat → L2.St → Hp → Prop, (∃ m, W 0 m σ H) ∧ ∀ i m σ H, W i m σ H →
      ((IteT K a).stop i H ∧ D.nx σ H) ∨ ((IteT K a).go i H ∧ ∃ N : L2.St → Hp → Prop, (∀ σ' H', N σ' H' → ∃ m', m' < m ∧ W (i + 1) m' σ' H') ∧
        ∀ x H', (IteT K a).yld i H x H' → g x σ H' fun σ2 H2 => tb { D with nx := N, ct := N, bk := D.nx } σ2 H2) := by
  refine ⟨fun i m σ H => m = xs.length - i ∧ i ≤ xs.length ∧ Pv i σ H, ⟨xs.length, by simp, Nat.zero_le _, h0⟩, ?_⟩
  rintro i m σ H ⟨rfl, hi, p⟩
  have q := hl i σ H hi p
  by_cases hlt : i < xs.length
  · refine .inr ⟨⟨xs, xs[i], q, by simp [hlt]⟩, Pv (i + 1), fun σ' H' p' => ⟨xs.length - (i + 1), by omega, rfl, hlt, p'⟩, fun x H' y => ?_⟩
    obtain ⟨T, u, ex, hT, eH, hu⟩ := y
    subst ex
    subst eH
    exact hs i u σ H T (hu xs q) p hT
  · have e : i = xs.length := by omega
    subst e
    exact .inl ⟨⟨xs, q, rfl⟩, hd σ H p⟩
/-- a call of a local name that holds one of several defs -/
def tCallR (i : Nat) (S : Addr → Sp → Prop) (t : TA) : TE := fun σ H Q => ∃ f sp, σ[i]? = some (some (.ref f)) ∧ S f sp ∧ t σ H fun vs H1 => sp vs H1 Q (fun _ _ _ => False)
section
variable {X : Cx} {k i : Nat} {x : Str} {p pos : Pos} {e : Expr} {es : List Expr} {t : TA}
theorem pe_callR {S : Addr → Sp → Prop} (A : ∀ f sp, S f sp → Held X.prog X.w X.K X.mg X.base k f sp) (hr : Room k X.A) (hN : X.N[i]? = some x) (hv : Vis X.env.scope x) (ha : PA X (e :: es) t)
    (hdb : (x == ("__debug__" : Str)) = false := by decide) (hcd : (x == ("__classdict__" : Str)) = false := by decide)
    (he : starEach (e :: es) X.env = (false, eval e X.env) :: starEach es X.env := by rfl) (hpl : (backTo pos (starEach es X.env)).any (·.1) = false := by rfl) :
    PE X (.Call (.Name x p) (e :: es) [] pos) (tCallR i S t) := by
  refine ⟨fun pins s σ H Q I h => ?_⟩
  obtain ⟨f, sp, h1, h2, h3⟩ := h
  exact (pe_callA (S := fun g => if g = f then some sp else none) (fun g sp' h => by
    split at h
    · rename_i e1
      cases h
      rw [e1]
      exact A f sp h2
    · cases h) hr hN hv ha hdb hcd he hpl).run pins s σ H Q I ⟨f, sp, h1, if_pos rfl, h3⟩
end
end Td
/-! What a true run does. -/
namespace Td
open PySem PySem.Spec PyProof.Rows L2
abbrev Env := List (Str × Str)
def kv (L : Env) : List (Key × V) := L.map fun p => (.inr p.1, V.str p.2)
def getE (L : Env) (k : Str) : Option Str := (L.find? fun p => decide (p.1 = k)).map (·.2)
def putE (L : Env) (k v : Str) : Env := if (L.any fun p => decide (p.1 = k)) = true then L.map (fun p => if p.1 = k then (p.1, v) else p) else L ++ [(k, v)]
def sdE (L : Env) (k v : Str) : Env := if (getE L k).isSome = true then L else putE L k v
theorem kv_len (L : Env) : (kv L).length = L.length := List.length_map _
theorem inr_iff (a b : Str) : (Sum.inr a : Key) = .inr b ↔ a = b := ⟨fun h => Sum.inr.inj h, fun h => by rw [h]⟩
theorem kv_get (L : Env) (k : Str) : valV (kv L) (.inr k : Key) = (getE L k).map V.str := by
  unfold valV getE kv
  induction L with
  | nil => rfl
  | cons p r ih =>
    rw [List.map_cons, List.find?_cons, List.find?_cons]
    by_cases h : p.1 = k
    · simp [h]
    · have h2 : ¬ ((Sum.inr p.1 : Key) = .inr k) := fun e => h (Sum.inr.inj e)
      simp only [decide_eq_false h, decide_eq_false h2]
      exact ih
theorem kv_any (L : Env) (k : Str) : ((kv L).any fun q => decide (q.1 = (.inr k : Key))) = L.any fun p => decide (p.1 = k) := by
  unfold kv
  induction L with
  | nil => rfl
  | cons p r ih =>
    rw [List.map_cons, List.any_cons, List.any_cons, ih]
    congr 1
    exact decide_eq_decide.mpr (inr_iff _ _)
theorem kv_put (L : Env) (k v : Str) : putK (kv L) (.inr k : Key) (.str v) = kv (putE L k v) := by
  unfold putK putE
  rw [kv_any]
  by_cases h : (L.any fun p => decide (p.1 = k)) = true
  · rw [if_pos h, if_pos h]
    unfold kv
    rw [List.map_map, List.map_map]
    refine List.map_congr_left fun p _ => ?_
    show (if (Sum.inr p.1 : Key) = .inr k then _ else _) = _
    by_cases e : p.1 = k
    · have e2 : (Sum.inr p.1 : Key) = .inr k := by rw [e]
      rw [if_pos e2]
      show _ = ((Sum.inr (if p.1 = k then (p.1, v) else p).1 : Key), V.str (if p.1 = k then (p.1, v) else p).2)
      rw [if_pos e]
    · have e2 : ¬ (Sum.inr p.1 : Key) = .inr k := fun h => e (Sum.inr.inj h)
      rw [if_neg e2]
      show _ = ((Sum.inr (if p.1 = k then (p.1, v) else p).1 : Key), V.str (if p.1 = k then (p.1, v) else p).2)
      rw [if_neg e]
  · rw [if_neg h, if_neg h]
    unfold kv
    rw [List.map_append]
    rfl
theorem putE_len (L : Env) (k v : Str) : (putE L k v).length ≤ L.length + 1 := by
  unfold putE
  split
  · rw [List.length_map]; omega
  · rw [List.length_append]; exact Nat.le_refl _
theorem sdE_len (L : Env) (k v : Str) : (sdE L k v).length ≤ L.length + 1 := by
  unfold sdE
  split
  · omega
  · exact putE_len ..
theorem getE_any (k : Str) : ∀ L : Env, (L.any fun p => decide (p.1 = k)) = (getE L k).isSome
  | [] => rfl
  | p :: r => by
    rw [List.any_cons]
    unfold getE
    rw [List.find?_cons]
    by_cases e : p.1 = k
    · simp [e]
    · simp only [decide_eq_false e, Bool.false_or]
      exact getE_any k r
theorem getE_cons (p : Str × Str) (r : Env) (k : Str) : getE (p :: r) k = if p.1 = k then some p.2 else getE r k := by
  unfold getE
  rw [List.find?_cons]
  by_cases e : p.1 = k
  · simp [e]
  · simp [e]
theorem getE_put (L : Env) (k v j : Str) : getE (putE L k v) j = if j = k then some v else getE L j := by
  unfold putE
  split
  · rename_i h
    induction L with
    | nil => simp at h
    | cons p r ih =>
      rw [List.map_cons, getE_cons, getE_cons]
      by_cases e : p.1 = k
      · rw [if_pos e]
        by_cases ej : j = k
        · subst ej; simp [e]
        · have : ¬ p.1 = j := fun h => ej (by rw [← h, e])
          rw [if_neg this, if_neg this, if_neg ej]
          by_cases hr : (r.any fun p => decide (p.1 = k)) = true
          · rw [ih hr, if_neg ej]
          · have hr2 : r.map (fun p => if p.1 = k then (p.1, v) else p) = r := by
              conv => rhs; rw [← List.map_id r]
              refine List.map_congr_left fun q hq => ?_
              rw [if_neg]
              · rfl
              · intro e2
                exact hr (List.any_eq_true.mpr ⟨q, hq, decide_eq_true e2⟩)
            rw [hr2]
      · rw [if_neg e]
        have hr : (r.any fun p => decide (p.1 = k)) = true := by
          rw [List.any_cons, decide_eq_false e, Bool.false_or] at h
          exact h
        rw [ih hr]
        by_cases ej : p.1 = j
        · rw [if_pos ej, if_pos ej, if_neg (fun h => e (by rw [ej, h]))]
        · rw [if_neg ej, if_neg ej]
  · rename_i h
    have hn : getE L k = none := by
      rw [getE_any] at h
      cases e : getE L k with
      | none => rfl
      | some z => rw [e] at h; exact absurd rfl h
    induction L with
    | nil => rw [List.nil_append, getE_cons]; by_cases ej : j = k
             · subst ej; simp
             · rw [if_neg (fun e => ej e.symm), if_neg ej]
    | cons p r ih =>
      rw [List.cons_append, getE_cons, getE_cons]
      rw [getE_cons] at hn
      by_cases e : p.1 = k
      · rw [if_pos e] at hn; cases hn
      · rw [if_neg e] at hn
        have hr : ¬ (r.any fun p => decide (p.1 = k)) = true := by rw [getE_any, hn]; simp
        rw [ih hr hn]
        by_cases ej : p.1 = j
        · rw [if_pos ej, if_pos ej, if_neg (fun h => e (by rw [ej, h]))]
        · rw [if_neg ej, if_neg ej]
/-! ### a run -/
structure RS where
  slots : Env
  noted : Env
  peeked : Env
  said : List Str
  written : Env
  given : Str
def RS.word (st : RS) (d s : Str) : Str := (getE st.slots s).getD d
mutual
def runR (kn : Str → Str) (d : Str) : Row → RS → RS × Bool
  | .rd pk c s, st => ({ st with slots := putE st.slots s (kn c), noted := (if pk then st.noted else sdE st.noted c (kn c)), peeked := (if pk then sdE st.peeked c (kn c) else st.peeked) }, false)
  | .put s u, st => ({ st with slots := putE st.slots s u }, false)
  | .give s, st => ({ st with given := st.word d s }, true)
  | .say s, st => ({ st with said := st.said ++ [st.word d s] }, false)
  | .wr c s, st => ({ st with written := st.written ++ [(c, st.word d s)] }, false)
  | .ite s u y n, st => if st.word d s = u then runRs kn d y st else runRs kn d n st
def runRs (kn : Str → Str) (d : Str) : List Row → RS → RS × Bool
  | [], st => (st, false)
  | r :: rs, st => if (runR kn d r st).2 = true then ((runR kn d r st).1, true) else runRs kn d rs (runR kn d r st).1
end
theorem runRs_yes {kn : Str → Str} {d : Str} {r : Row} {st : RS} (rs : List Row) (h : (runR kn d r st).2 = true) : runRs kn d (r :: rs) st = ((runR kn d r st).1, true) := by simp only [runRs, if_pos h]
theorem runRs_no {kn : Str → Str} {d : Str} {r : Row} {st : RS} (rs : List Row) (h : ¬ (runR kn d r st).2 = true) : runRs kn d (r :: rs) st = runRs kn d rs (runR kn d r st).1 := by simp only [runRs, if_neg h]
theorem runRs_append (kn : Str → Str) (d : Str) : ∀ (rs ts : List Row) (st : RS), runRs kn d (rs ++ ts) st = if (runRs kn d rs st).2 = true then runRs kn d rs st else runRs kn d ts (runRs kn d rs st).1
  | [], ts, st => by
    show runRs kn d ts st = _
    simp [runRs]
  | r :: rs, ts, st => by
    show runRs kn d (r :: (rs ++ ts)) st = _
    by_cases h : (runR kn d r st).2 = true
    · simp only [runRs_yes _ h, if_true]
    · simp only [runRs_no _ h]
      exact runRs_append kn d rs ts _
theorem runRs_next {kn : Str → Str} {d : Str} {rs : List Row} {st : RS} {i : Nat} {r : Row} (h : rs[i]? = some r) (hf : (runRs kn d (rs.take i) st).2 = false) :
    runRs kn d (rs.take (i + 1)) st = runR kn d r (runRs kn d (rs.take i) st).1 := by
  rw [take_more h, runRs_append, hf]
  simp only [runRs, if_neg (Bool.false_ne_true)]
  by_cases h2 : (runR kn d r (runRs kn d (rs.take i) st).1).2 = true
  · rw [if_pos h2]
    exact Prod.ext rfl h2.symm
  · rw [if_neg h2]
    exact Prod.ext rfl (by simpa using h2)
theorem runRs_stop {kn : Str → Str} {d : Str} {rs : List Row} {st : RS} {i : Nat} {r : Row} (h : rs[i]? = some r) (hf : (runRs kn d (rs.take i) st).2 = false)
    (ht : (runR kn d r (runRs kn d (rs.take i) st).1).2 = true) : runRs kn d rs st = runR kn d r (runRs kn d (rs.take i) st).1 := by
  have e : rs = rs.take (i + 1) ++ rs.drop (i + 1) := (List.take_append_drop _ _).symm
  have e2 := runRs_next h hf
  rw [e, runRs_append, ← e, e2, if_pos ht]
/-- no list of the run is long -/
structure RS.Few (st : RS) (n : Nat) : Prop where
  sl : st.slots.length ≤ n
  no : st.noted.length ≤ n
  pe : st.peeked.length ≤ n
  sa : st.said.length ≤ n
  wr : st.written.length ≤ n
theorem RS.Few.mono {st : RS} {n m : Nat} (h : st.Few n) (l : n ≤ m) : st.Few m := ⟨Nat.le_trans h.sl l, Nat.le_trans h.no l, Nat.le_trans h.pe l, Nat.le_trans h.sa l, Nat.le_trans h.wr l⟩
mutual
theorem few_R (kn : Str → Str) (d : Str) : ∀ (r : Row) (st : RS) (n : Nat), st.Few n → (runR kn d r st).1.Few (n + Td.cnt r)
  | .rd pk c s, st, n, h => by
    have h1 := putE_len st.slots s (kn c)
    have h2 := sdE_len st.noted c (kn c)
    have h3 := sdE_len st.peeked c (kn c)
    have a := h.sl; have b := h.no; have c' := h.pe; have d' := h.sa; have e := h.wr
    cases pk <;> simp only [runR, Td.cnt] <;> refine ⟨?_, ?_, ?_, ?_, ?_⟩ <;> simp <;> omega
  | .put s u, st, n, h => by
    have h1 := putE_len st.slots s u
    have a := h.sl; have b := h.no; have c' := h.pe; have d' := h.sa; have e := h.wr
    simp only [runR, Td.cnt]; refine ⟨?_, ?_, ?_, ?_, ?_⟩ <;> simp <;> omega
  | .give s, st, n, h => by
    have a := h.sl; have b := h.no; have c' := h.pe; have d' := h.sa; have e := h.wr
    simp only [runR, Td.cnt]; refine ⟨?_, ?_, ?_, ?_, ?_⟩ <;> simp <;> omega
  | .say s, st, n, h => by
    have a := h.sl; have b := h.no; have c' := h.pe; have d' := h.sa; have e := h.wr
    simp only [runR, Td.cnt]; refine ⟨?_, ?_, ?_, ?_, ?_⟩ <;> simp <;> omega
  | .wr c s, st, n, h => by
    have a := h.sl; have b := h.no; have c' := h.pe; have d' := h.sa; have e := h.wr
    simp only [runR, Td.cnt]; refine ⟨?_, ?_, ?_, ?_, ?_⟩ <;> simp <;> omega
  | .ite s u y m, st, n, h => by
    simp only [runR, Td.cnt]
    split
    · exact (few_Rs kn d y st n h).mono (by omega)
    · exact (few_Rs kn d m st n h).mono (by omega)
theorem few_Rs (kn : Str → Str) (d : Str) : ∀ (rs : List Row) (st : RS) (n : Nat), st.Few n → (runRs kn d rs st).1.Few (n + cnts rs)
  | [], st, n, h => by simp only [runRs]; exact h.mono (Nat.le_add_right _ _)
  | r :: rs, st, n, h => by
    have h1 := few_R kn d r st n h
    simp only [runRs, cnts]
    split
    · exact h1.mono (by omega)
    · exact (few_Rs kn d rs _ _ h1).mono (by omega)
end
/-! ### the run's object -/
structure RA where
  ra : Addr
  kd : Addr
  ps : Addr
  pn : Addr
  pp : Addr
  pd : Addr
  pw : Addr
  d : Str
def RA.fldsV (A : RA) (v : V) : List (Str × V) := [("noted", .ref A.pn), ("peeked", .ref A.pp), ("said", .ref A.pd), ("written", .ref A.pw), ("given", v), ("default", .str A.d), ("known", .ref A.kd), ("slots", .ref A.ps)]
def RA.flds (A : RA) (g : Str) : List (Str × V) := A.fldsV (.str g)
def wrD (p : Str × Str) : PyData := .tuple [.str p.1, .str p.2]
structure RunAt (K : PySem.W.Frag) (C : Addr) (A : RA) (H0 H : Hp) (st : RS) : Prop where
  same : Same H0 H
  f0 : H0 A.ra = none
  f1 : H0 A.ps = none
  f2 : H0 A.pn = none
  f3 : H0 A.pp = none
  f4 : H0 A.pd = none
  f5 : H0 A.pw = none
  n1 : A.ps ≠ A.pn
  n2 : A.ps ≠ A.pp
  n3 : A.pn ≠ A.pp
  n4 : A.pd ≠ A.pw
  ob : ∃ dx, H A.ra = some (.ins C dx (A.flds st.given))
  sl : H A.ps = some (.dK (kv st.slots))
  no : H A.pn = some (.dK (kv st.noted))
  pe : H A.pp = some (.dK (kv st.peeked))
  sa : H A.pd = some (.lst (st.said.map V.str))
  wr : ∃ xs, H A.pw = some (.lst xs) ∧ TnAll K H xs (st.written.map wrD)
section
variable {K : PySem.W.Frag} {C : Addr} {A : RA} {H0 H H' : Hp} {st : RS}
theorem own_same {H0 H : Hp} {p : Addr} {o : HO} (k : Same H0 H) (h : H0 p = none) : Same H0 (upd H p o) := fun b u e => by
  rw [upd_ne (ne_of_none e h)]; exact k b u e
theorem RunAt.go (h : RunAt K C A H0 H st) (s : Same H H') : RunAt K C A H0 H' st := by
  obtain ⟨dx, e⟩ := h.ob
  obtain ⟨xs, e1, e2⟩ := h.wr
  exact ⟨h.same.trans s, h.f0, h.f1, h.f2, h.f3, h.f4, h.f5, h.n1, h.n2, h.n3, h.n4, ⟨dx, s _ _ e⟩, s _ _ h.sl, s _ _ h.no, s _ _ h.pe, s _ _ h.sa, ⟨xs, s _ _ e1, TnAll.keep (TK.of_same s) e2⟩⟩
theorem RunAt.slots (h : RunAt K C A H0 H st) (L : Env) : RunAt K C A H0 (upd H A.ps (.dK (kv L))) { st with slots := L } := by
  obtain ⟨dx, e⟩ := h.ob
  obtain ⟨xs, e1, e2⟩ := h.wr
  exact ⟨own_same h.same h.f1, h.f0, h.f1, h.f2, h.f3, h.f4, h.f5, h.n1, h.n2, h.n3, h.n4, ⟨dx, by rw [upd_ne (ne_of e h.sl (by intro z; cases z))]; exact e⟩, upd_same, by rw [upd_ne (Ne.symm h.n1)]; exact h.no, by rw [upd_ne (Ne.symm h.n2)]; exact h.pe,
    by rw [upd_ne (ne_of h.sa h.sl (by intro z; cases z))]; exact h.sa, ⟨xs, by rw [upd_ne (ne_of e1 h.sl (by intro z; cases z))]; exact e1, TnAll.keep (TK.upd (by rw [h.sl]; trivial)) e2⟩⟩
theorem RunAt.noted (h : RunAt K C A H0 H st) (L : Env) : RunAt K C A H0 (upd H A.pn (.dK (kv L))) { st with noted := L } := by
  obtain ⟨dx, e⟩ := h.ob
  obtain ⟨xs, e1, e2⟩ := h.wr
  exact ⟨own_same h.same h.f2, h.f0, h.f1, h.f2, h.f3, h.f4, h.f5, h.n1, h.n2, h.n3, h.n4, ⟨dx, by rw [upd_ne (ne_of e h.no (by intro z; cases z))]; exact e⟩, by rw [upd_ne h.n1]; exact h.sl, upd_same, by rw [upd_ne (Ne.symm h.n3)]; exact h.pe,
    by rw [upd_ne (ne_of h.sa h.no (by intro z; cases z))]; exact h.sa, ⟨xs, by rw [upd_ne (ne_of e1 h.no (by intro z; cases z))]; exact e1, TnAll.keep (TK.upd (by rw [h.no]; trivial)) e2⟩⟩
theorem RunAt.peeked (h : RunAt K C A H0 H st) (L : Env) : RunAt K C A H0 (upd H A.pp (.dK (kv L))) { st with peeked := L } := by
  obtain ⟨dx, e⟩ := h.ob
  obtain ⟨xs, e1, e2⟩ := h.wr
  exact ⟨own_same h.same h.f3, h.f0, h.f1, h.f2, h.f3, h.f4, h.f5, h.n1, h.n2, h.n3, h.n4, ⟨dx, by rw [upd_ne (ne_of e h.pe (by intro z; cases z))]; exact e⟩, by rw [upd_ne h.n2]; exact h.sl, by rw [upd_ne h.n3]; exact h.no, upd_same,
    by rw [upd_ne (ne_of h.sa h.pe (by intro z; cases z))]; exact h.sa, ⟨xs, by rw [upd_ne (ne_of e1 h.pe (by intro z; cases z))]; exact e1, TnAll.keep (TK.upd (by rw [h.pe]; trivial)) e2⟩⟩
theorem RunAt.say (h : RunAt K C A H0 H st) (L : List Str) : RunAt K C A H0 (upd H A.pd (.lst (L.map V.str))) { st with said := L } := by
  obtain ⟨dx, e⟩ := h.ob
  obtain ⟨xs, e1, e2⟩ := h.wr
  exact ⟨own_same h.same h.f4, h.f0, h.f1, h.f2, h.f3, h.f4, h.f5, h.n1, h.n2, h.n3, h.n4, ⟨dx, by rw [upd_ne (ne_of e h.sa (by intro z; cases z))]; exact e⟩, by rw [upd_ne (ne_of h.sl h.sa (by intro z; cases z))]; exact h.sl, by rw [upd_ne (ne_of h.no h.sa (by intro z; cases z))]; exact h.no,
    by rw [upd_ne (ne_of h.pe h.sa (by intro z; cases z))]; exact h.pe, upd_same, ⟨xs, by rw [upd_ne (Ne.symm h.n4)]; exact e1, TnAll.keep (TK.upd (by rw [h.sa]; trivial)) e2⟩⟩
theorem RunAt.write (h : RunAt K C A H0 H st) {xs : List V} {L : Env} (e1 : H A.pw = some (.lst xs)) {ys : List V} (e2 : TnAll K H ys (L.map wrD)) : RunAt K C A H0 (upd H A.pw (.lst ys)) { st with written := L } := by
  obtain ⟨dx, e⟩ := h.ob
  exact ⟨own_same h.same h.f5, h.f0, h.f1, h.f2, h.f3, h.f4, h.f5, h.n1, h.n2, h.n3, h.n4, ⟨dx, by rw [upd_ne (ne_of e e1 (by intro z; cases z))]; exact e⟩, by rw [upd_ne (ne_of h.sl e1 (by intro z; cases z))]; exact h.sl, by rw [upd_ne (ne_of h.no e1 (by intro z; cases z))]; exact h.no,
    by rw [upd_ne (ne_of h.pe e1 (by intro z; cases z))]; exact h.pe, by rw [upd_ne h.n4]; exact h.sa, ⟨ys, upd_same, TnAll.keep (TK.upd (by rw [e1]; trivial)) e2⟩⟩
theorem RunAt.give (h : RunAt K C A H0 H st) (g : Str) {dx : Addr} (e : H A.ra = some (.ins C dx (A.flds st.given))) : RunAt K C A H0 (upd H A.ra (.ins C dx (A.flds g))) { st with given := g } := by
  obtain ⟨xs, e1, e2⟩ := h.wr
  exact ⟨own_same h.same h.f0, h.f0, h.f1, h.f2, h.f3, h.f4, h.f5, h.n1, h.n2, h.n3, h.n4, ⟨dx, upd_same⟩, by rw [upd_ne (ne_of h.sl e (by intro z; cases z))]; exact h.sl, by rw [upd_ne (ne_of h.no e (by intro z; cases z))]; exact h.no,
    by rw [upd_ne (ne_of h.pe e (by intro z; cases z))]; exact h.pe, by rw [upd_ne (ne_of h.sa e (by intro z; cases z))]; exact h.sa, ⟨xs, by rw [upd_ne (ne_of e1 e (by intro z; cases z))]; exact e1, TnAll.keep (TK.upd (by rw [e]; trivial)) e2⟩⟩
end
section
variable (A : RA) (g g' : Str)
theorem fl_default : (A.flds g).lookup ("default" : Str) = some (.str A.d) := by kernel_rfl
theorem fl_known : (A.flds g).lookup ("known" : Str) = some (.ref A.kd) := by kernel_rfl
theorem fl_slots : (A.flds g).lookup ("slots" : Str) = some (.ref A.ps) := by kernel_rfl
theorem fl_noted : (A.flds g).lookup ("noted" : Str) = some (.ref A.pn) := by kernel_rfl
theorem fl_peeked : (A.flds g).lookup ("peeked" : Str) = some (.ref A.pp) := by kernel_rfl
theorem fl_said : (A.flds g).lookup ("said" : Str) = some (.ref A.pd) := by kernel_rfl
theorem fl_written : (A.flds g).lookup ("written" : Str) = some (.ref A.pw) := by kernel_rfl
theorem fl_given : (A.flds g).lookup ("given" : Str) = some (.str g) := by kernel_rfl
theorem fl_none : (A.flds g).lookup ("word_in" : Str) = none := by kernel_rfl
theorem fl_none2 (v : V) : (A.fldsV v).lookup ("parts" : Str) = none := by kernel_rfl
theorem fv_noted (v : V) : (A.fldsV v).lookup ("noted" : Str) = some (.ref A.pn) := by kernel_rfl
theorem fv_peeked (v : V) : (A.fldsV v).lookup ("peeked" : Str) = some (.ref A.pp) := by kernel_rfl
theorem fv_said (v : V) : (A.fldsV v).lookup ("said" : Str) = some (.ref A.pd) := by kernel_rfl
theorem fv_written (v : V) : (A.fldsV v).lookup ("written" : Str) = some (.ref A.pw) := by kernel_rfl
theorem fv_given (v : V) : (A.fldsV v).lookup ("given" : Str) = some v := by kernel_rfl
theorem fl_giveV (v : V) : putF "given" v (A.flds g) = A.fldsV v := by kernel_rfl
theorem fl_give : putF "given" (.str g') (A.flds g) = A.flds g' := by kernel_rfl
end
end Td
/-! dict(zip(t, u)) of two tuples as long as each other. -/
namespace Td
open PySem
section
variable {prog : Program} {w : World} {A : Around} {E : Value → Shared → Prop} {s : Shared} {z TI TO T i1 i2 : Addr} {f : Bool} {oT : Obj} {fp1 fp2 : List Addr} {n1 n2 i : Nat} {P1 P2 : Nat → Value → Prop} {St1 St2 : Nat → Heap → Prop}
/-- the next pair, the one ahead still held -/
theorem held_item {Q : Value → Shared → Prop} (S : ZipSep2 z TI TO i1 i2 fp1 fp2) (D1 : Draws prog w A i1 fp1 n1 P1 St1) (D2 : Draws prog w A i2 fp2 n2 P2 St2)
    (hz : IsZipHeld s.heap z TI TO T f) (hT : s.heap.get? T = some oT) (hTI : IsTupOf2 s.heap TI (.ref i1) (.ref i2)) (u1 : St1 i s.heap) (u2 : St2 i s.heap) (l1 : i < n1) (l2 : i < n2)
    (hQ : ∀ x y h' tk, P1 i x → P2 i y → IsZipHeld h' z TI TO T true → St1 (i + 1) h' → St2 (i + 1) h' → IsTupOf2 h' s.heap.objs.size x y →
      (∀ c o, c ≠ z → c ≠ i1 → c ≠ i2 → s.heap.get? c = some o → h'.get? c = some o) → Q (.ref s.heap.objs.size) { s with heap := h', toks := tk }) :
    wpAny (model prog w) A (Builtin.«zip.__next__» ⟨[.ref z], []⟩) (fun fin s' => ∃ v, fin = .done (.ret v) ∧ Q v s') E s := by
  obtain ⟨h0, gl, dd, t0, ow⟩ := s
  show wpAny _ _ (field (.ref z) 2 >>= _) _ _ _
  refine wpAny_bind (wpAny_field hz rfl (x := .bool false) rfl ?_)
  show wpAny _ _ (field (.ref z) 3 >>= _) _ _ _
  refine wpAny_bind (wpAny_field hz rfl (x := .ref TI) rfl (wpAny_bind (wpAny_seqItems hTI rfl ?_)))
  show wpAny _ _ (Builtin.SmallTypes.ownedTupleIsFree (.ref z) >>= _) _ _ _
  refine wpAny_bind (wpAny_tupleHeld_zip hz hT fun h1 z1 k1 => ?_)
  replace k1 : Heap.SameBut z h0 h1 := k1
  simp only [Bool.false_eq_true, if_false]
  refine wpAny_bind ?_
  rw [← Array.forIn_toList]
  simp only [List.forIn_cons, List.forIn_nil]
  refine wpAny_bind (wpAny_bind (wpAny_holding ?_))
  show wpAny _ _ (Builtin.SmallTypes.nextOf (.ref i1) >>= _) _ _ ⟨h1, gl, dd, t0, ow⟩
  refine wpAny_bind (D1.item i _ _ _ l1 (D1.over u1 k1 S.zf1) fun x h2 t2 px v1 k2 => wpAny_pure (wpAny_pure ?_))
  replace k2 : Heap.SameBut i1 h1 h2 := k2
  refine wpAny_bind (wpAny_bind (wpAny_holding ?_))
  show wpAny _ _ (Builtin.SmallTypes.nextOf (.ref i2) >>= _) _ _ ⟨h2, gl, dd, t2, ow⟩
  refine wpAny_bind (D2.item i _ _ _ l2 (D2.over (D2.over u2 k1 S.zf2) k2 S.sep1_2) fun y h3 t3 py v2 k3 => wpAny_pure (wpAny_pure (wpAny_pure ?_)))
  replace k3 : Heap.SameBut i2 h2 h3 := k3
  show wpAny _ _ (newTuple [x, y] >>= _) _ _ _
  refine wpAny_bind (wpAny_newTuple ?_)
  have up : ∀ c o, c ≠ z → c ≠ i1 → c ≠ i2 → h0.get? c = some o → h3.get? c = some o := fun c o a b d e => k3.extBut _ _ d (k2.extBut _ _ b (k1.extBut _ _ a e))
  have es : h3.objs.size = h0.objs.size := by rw [k3.1, k2.1, k1.1]
  have nw : IsTupOf2 (h3.push { cls := .type "tuple", data := .seq #[x, y] }) h3.objs.size x y := Heap.get?_push_size _ rfl
  refine wpAny_pure ⟨_, rfl, ?_⟩
  rw [es] at nw
  show Q (.ref h3.objs.size) _
  rw [es]
  exact hQ x y _ t3 px py (Heap.get?_push_of_some _ (k3.extBut _ _ S.zi2 (k2.extBut _ _ S.zi1 z1)))
    (D1.frame _ _ _ (D1.over v1 k3 S.sep2_1) fun b _ o e => Heap.get?_push_of_some _ e) (D2.frame _ _ _ v2 fun b _ o e => Heap.get?_push_of_some _ e) nw fun c o a b d e => Heap.get?_push_of_some _ (up c o a b d e)
/-- no pair behind the last, the one ahead still held -/
theorem held_end {Q : Fin → Shared → Prop} (S : ZipSep2 z TI TO i1 i2 fp1 fp2) (D1 : Draws prog w A i1 fp1 n1 P1 St1)
    (hz : IsZipHeld s.heap z TI TO T f) (hT : s.heap.get? T = some oT) (hTI : IsTupOf2 s.heap TI (.ref i1) (.ref i2)) (u1 : St1 n1 s.heap)
    (hE : ∀ h' e, (∀ c o, c ≠ z → c ≠ i1 → s.heap.get? c = some o → h'.get? c = some o) → (∃ o, h'.get? e = some o ∧ o.cls = .type "StopIteration") → E (.ref e) { s with heap := h' }) :
    wpAny (model prog w) A (Builtin.«zip.__next__» ⟨[.ref z], []⟩) Q E s := by
  show wpAny _ _ (field (.ref z) 2 >>= _) _ _ _
  refine wpAny_bind (wpAny_field hz rfl (x := .bool false) rfl ?_)
  show wpAny _ _ (field (.ref z) 3 >>= _) _ _ _
  refine wpAny_bind (wpAny_field hz rfl (x := .ref TI) rfl (wpAny_bind (wpAny_seqItems hTI rfl ?_)))
  show wpAny _ _ (Builtin.SmallTypes.ownedTupleIsFree (.ref z) >>= _) _ _ _
  refine wpAny_bind (wpAny_tupleHeld_zip hz hT fun h1 z1 k1 => ?_)
  simp only [Bool.false_eq_true, if_false]
  refine wpAny_bind ?_
  rw [← Array.forIn_toList]
  simp only [List.forIn_cons, List.forIn_nil]
  refine wpAny_bind (wpAny_bind (wpAny_holding ?_))
  show wpAny _ _ (Builtin.SmallTypes.nextOf (.ref i1) >>= _) _ _ _
  exact wpAny_bind (D1.done { s with heap := h1 } _ _ (D1.over u1 k1 S.zf1) fun h2 e k2 he => hE h2 e (fun c o a b x => k2 _ _ b (k1.extBut _ _ a x)) he)
theorem next_held_item {Q : Option Value → Shared → Prop} (S : ZipSep2 z TI TO i1 i2 fp1 fp2) (D1 : Draws prog w A.in1 i1 fp1 n1 P1 St1) (D2 : Draws prog w A.in1 i2 fp2 n2 P2 St2)
    (hz : IsZipHeld s.heap z TI TO T f) (hT : s.heap.get? T = some oT) (hTI : IsTupOf2 s.heap TI (.ref i1) (.ref i2)) (u1 : St1 i s.heap) (u2 : St2 i s.heap) (l1 : i < n1) (l2 : i < n2)
    (hQ : ∀ x y h' tk, P1 i x → P2 i y → IsZipHeld h' z TI TO T true → St1 (i + 1) h' → St2 (i + 1) h' → IsTupOf2 h' s.heap.objs.size x y →
      (∀ c o, c ≠ z → c ≠ i1 → c ≠ i2 → s.heap.get? c = some o → h'.get? c = some o) → Q (some (.ref s.heap.objs.size)) { s with heap := h', toks := tk }) :
    wpAny (model prog w) A (pyNext (.ref z)) Q E s := by
  have ty : s.TypeIs (.ref z) "zip" := ⟨_, hz, rfl⟩
  unfold pyNext
  refine wpAny_bind (wpAny_attempt (wpAny_callSpecial?_slot (name := Str.ofString "__next__") ty F.slot_zip_next (wpAny_call_entry F.slot_zip_next ty F.entry_zip_next ?_ (F.args_zip_next_1 _))))
  exact held_item S D1 D2 hz hT hTI u1 u2 l1 l2 fun x y h' tk a b c d e g k => wpAny_pure (hQ x y h' tk a b c d e g k)
theorem next_held_end {Q : Option Value → Shared → Prop} (S : ZipSep2 z TI TO i1 i2 fp1 fp2) (D1 : Draws prog w A.in1 i1 fp1 n1 P1 St1)
    (hz : IsZipHeld s.heap z TI TO T f) (hT : s.heap.get? T = some oT) (hTI : IsTupOf2 s.heap TI (.ref i1) (.ref i2)) (u1 : St1 n1 s.heap)
    (hQ : ∀ h', (∀ c o, c ≠ z → c ≠ i1 → s.heap.get? c = some o → h'.get? c = some o) → Q none { s with heap := h' }) :
    wpAny (model prog w) A (pyNext (.ref z)) Q E s := by
  have ty : s.TypeIs (.ref z) "zip" := ⟨_, hz, rfl⟩
  unfold pyNext
  refine wpAny_bind (wpAny_attempt (wpAny_callSpecial?_slot (name := Str.ofString "__next__") ty F.slot_zip_next (wpAny_call_entry F.slot_zip_next ty F.entry_zip_next ?_ (F.args_zip_next_1 _))))
  refine held_end S D1 hz hT hTI u1 fun h' e k he => ?_
  obtain ⟨o, ho, hc⟩ := he
  exact wpAny_bind (wpAny_isInstance (T := "StopIteration") (b := true) ⟨o, ho, hc⟩ isSubtype_stop (wpAny_pure (hQ _ k)))
end
theorem apart {h : Heap} {it l a : Addr} {i : Nat} {xs : Array Value} (p : h.IsTupleIter it l i) (q : h.IsTuple a xs) : a ≠ it := by
  intro e
  subst e
  obtain ⟨o, e1, c1, _⟩ := p
  obtain ⟨u, e2, c2, _⟩ := q
  rw [e1] at e2
  cases e2
  rw [c1] at c2
  injection c2 with c2
  exact absurd c2 (by decide)
/-- zip(t, u) as the argument of dict() -/
theorem zipTup {prog : Program} {w : World} (z TI TO i1 i2 a b : Addr) (S : ZipSep2 z TI TO i1 i2 [i1, a] [i2, b]) (xs ys : Array Value) (hl : xs.size = ys.size) :
    PairArg prog w "zip" z [z, TI, TO, i1, a, i2, b] [z, TO, i1, i2] xs.size (fun i k v => xs[i]? = some k ∧ ys[i]? = some v)
      (fun h => IsZip h z TI TO .none ∧ IsTupOf2 h TI (.ref i1) (.ref i2) ∧ IsTupOf2 h TO .none .none ∧ (h.IsTupleIter i1 a 0 ∧ h.IsTuple a xs) ∧ h.IsTupleIter i2 b 0 ∧ h.IsTuple b ys) where
  type := fun s o => ⟨_, o.1, rfl⟩
  notDict := by decide
  keep := fun h h' ⟨q1, q2, q3, ⟨q4, q5⟩, q6, q7⟩ k => ⟨k _ _ q1, k _ _ q2, k _ _ q3, ⟨q4.at fun o => k _ o, q5.at fun o => k _ o⟩, q6.at fun o => k _ o, q7.at fun o => k _ o⟩
  there := fun h ⟨q1, q2, q3, ⟨⟨o4, q4, _⟩, o5, q5, _⟩, ⟨o6, q6, _⟩, o7, q7, _⟩ c hc => by
    simp only [List.mem_cons, List.not_mem_nil, or_false] at hc
    rcases hc with e | e | e | e | e | e | e <;> subst e
    · exact ⟨_, q1⟩
    · exact ⟨_, q2⟩
    · exact ⟨_, q3⟩
    · exact ⟨_, q4⟩
    · exact ⟨_, q5⟩
    · exact ⟨_, q6⟩
    · exact ⟨_, q7⟩
  sub := fun c hc => by
    simp only [List.mem_cons, List.not_mem_nil, or_false] at hc ⊢
    rcases hc with e | e | e | e <;> simp [e]
  noKeys := fun A s Q E hA o h => getAttrOr_miss_zip o.1 rfl rfl rfl zip_no_keys (by decide +kernel) hA h
  iter := fun A s d Q E hA ⟨q1, q2, q3, q4, q6⟩ hd hf h => by
    simp only [List.mem_cons, List.not_mem_nil, or_false, not_or] at hf
    obtain ⟨dz, dI, dO, d1, da, d2, db⟩ := hf
    have D1 := Draws.tuple (prog := prog) (w := w) (A := A.in1) hA i1 a (apart q4.1 q4.2) xs
    have D2 := Draws.tuple (prog := prog) (w := w) (A := A.in1) hA i2 b (apart q6.1 q6.2) ys
    refine wpAny_pyIter_zip q1 (h z [z, TO, i1, i2] (fun i g => IsTupOf2 g TI (.ref i1) (.ref i2) ∧ (g.IsTupleIter i1 a i ∧ g.IsTuple a xs) ∧ (g.IsTupleIter i2 b i ∧ g.IsTuple b ys) ∧
      ((IsZip g z TI TO .none ∧ IsTupOf2 g TO .none .none) ∨ ∃ T f oT, IsZipHeld g z TI TO T f ∧ g.get? T = some oT ∧ T ≠ z ∧ T ≠ i1 ∧ T ≠ i2 ∧ T ≠ d)) s.heap s.toks ?_ ⟨q2, q4, q6, .inl ⟨q1, q3⟩⟩ (fun _ _ e => e) fun c hc => .inl hc)
    refine ⟨fun hm => ?_, fun i g g' st k => ?_, fun i s1 Q1 E1 hi st hds hQ => ?_, fun s1 Q1 E1 st hQ => ?_⟩
    · simp only [List.mem_cons, List.not_mem_nil, or_false] at hm
      rcases hm with e | e | e | e
      · exact dz e
      · exact dO e
      · exact d1 e
      · exact d2 e
    · obtain ⟨p1, ⟨p2, p3⟩, ⟨p4, p5⟩, p6⟩ := st
      refine ⟨k _ _ (Ne.symm dI) p1, ⟨p2.at fun o => k _ o (Ne.symm d1), p3.at fun o => k _ o (Ne.symm da)⟩, ⟨p4.at fun o => k _ o (Ne.symm d2), p5.at fun o => k _ o (Ne.symm db)⟩, ?_⟩
      rcases p6 with ⟨r1, r2⟩ | ⟨T, f, oT, r1, r2, r3, r4, r5, r6⟩
      · exact .inl ⟨k _ _ (Ne.symm dz) r1, k _ _ (Ne.symm dO) r2⟩
      · exact .inr ⟨T, f, oT, k _ _ (Ne.symm dz) r1, k _ _ r6 r2, r3, r4, r5, r6⟩
    · obtain ⟨p1, p2, p4, p6⟩ := st
      have old : ∀ {c o}, s1.heap.get? c = some o → s1.heap.objs.size ≠ c := fun e => Nat.ne_of_gt (Heap.lt_size e)
      have m1 : s1.heap.objs.size ≠ i1 := let ⟨⟨_, e, _⟩, _⟩ := p2; old e
      have m2 : s1.heap.objs.size ≠ i2 := let ⟨⟨_, e, _⟩, _⟩ := p4; old e
      rcases p6 with ⟨r1, r2⟩ | ⟨T, f, oT, r1, r2, r3, r4, r5, r6⟩
      · refine wpAny_pyNext_zipD2_item S D1 D2 r1 p1 r2 p2 p4 hi (hl ▸ hi) fun x y h' tk px py b1 _ c1 c2 b5 _ k => ?_
        exact hQ _ x y h' tk ⟨px, py⟩ (.inl ⟨_, b5, rfl, _, rfl⟩) ⟨k _ _ S.TIz S.TITO S.TIi1 S.TIi2 p1, c1, c2, .inr ⟨_, false, _, b1, b5, old r1, m1, m2, Nat.ne_of_gt hds⟩⟩
          fun c o hc e => k c o (fun v => hc (by simp [v])) (fun v => hc (by simp [v])) (fun v => hc (by simp [v])) (fun v => hc (by simp [v])) e
      · refine next_held_item S D1 D2 r1 r2 p1 p2 p4 hi (hl ▸ hi) fun x y h' tk px py b1 c1 c2 b5 k => ?_
        exact hQ _ x y h' tk ⟨px, py⟩ (.inl ⟨_, b5, rfl, _, rfl⟩) ⟨k _ _ S.TIz S.TIi1 S.TIi2 p1, c1, c2, .inr ⟨T, true, oT, b1, k _ _ r3 r4 r5 r2, r3, r4, r5, r6⟩⟩
          fun c o hc e => k c o (fun v => hc (by simp [v])) (fun v => hc (by simp [v])) (fun v => hc (by simp [v])) e
    · obtain ⟨p1, p2, p4, p6⟩ := st
      rcases p6 with ⟨r1, r2⟩ | ⟨T, f, oT, r1, r2, r3, r4, r5, r6⟩
      · exact wpAny_pyNext_zipD2_end S D1 D2 r1 p1 r2 p2 p4 (Nat.le_refl _) (by omega) (.inl rfl) fun h' tk k => hQ h' tk fun c o hc e => k c o (fun v => hc (by simp [v])) (fun v => hc (by simp [v])) (fun v => hc (by simp [v])) (fun v => hc (by simp [v])) e
      · exact next_held_end S D1 r1 r2 p1 p2 fun h' k => hQ h' s1.toks fun c o hc e => k c o (fun v => hc (by simp [v])) (fun v => hc (by simp [v])) e
open PySem.Spec PyProof.Rows L2
/-- dict(zip(..)) of tuples with keys for items -/
def tDictZip (K : PySem.W.Frag) (t : TA) : TE := fun σ H Q => t σ H fun vs H1 => ∃ (a b : Addr) (ks : List Key) (ys : List V), vs = [.ref a, .ref b] ∧ SqT K H1 a (ks.map kV) ∧ SqT K H1 b ys ∧ ks.length = ys.length ∧
  ∀ p, H1 p = none → Q (.ref p) (upd H1 p (.dK (mergeK [] (ks.zip ys))))
theorem zip_rel : ∀ {ks : List Key} {ys : List V} {us vs : List Value}, Vals (ks.map kV) us → Vals ys vs → ks.length = ys.length →
    KV (ks.zip ys) (ks.zip vs) ∧ us.length = ks.length ∧ ∀ (i : Nat) (k v : Value), us[i]? = some k → vs[i]? = some v → ∃ c, (ks.zip vs)[i]? = some (c, v) ∧ ∀ (P : Program) (w : World), (mixKind P w).is c k = true
  | [], [], _, _, .nil, .nil, _ => ⟨.nil, rfl, fun i k v h => by simp at h⟩
  | c :: ks, y :: ys, _, _, .cons r1 t1, .cons r2 t2, h => by
    obtain ⟨p1, p2, p3⟩ := zip_rel t1 t2 (by simpa using h)
    refine ⟨.cons ⟨rfl, r2⟩ p1, by rw [List.length_cons, List.length_cons, p2], fun i k v h1 h2 => ?_⟩
    cases i with
    | zero =>
      simp at h1 h2
      subst h1 h2
      exact ⟨c, rfl, fun P w => kV_is r1⟩
    | succ i => exact p3 i k v (by simpa using h1) (by simpa using h2)
theorem sepNat (n a b : Nat) (ha : a < n) (hb : b < n) : ZipSep2 (n + 4) (n + 2) (n + 3) n (n + 1) [n, a] [n + 1, b] := by
  have k1 : ∀ i : Nat, 0 < i → n + i ≠ n := fun i h => by omega
  have k2 : ∀ i j : Nat, i ≠ j → n + i ≠ n + j := fun i j h => by omega
  have k3 : ∀ i : Nat, n + i ≠ a := fun i => by omega
  have k4 : ∀ i : Nat, n + i ≠ b := fun i => by omega
  have k5 : n ≠ b := by omega
  have k6 : n ≠ a := by omega
  refine ⟨k2 2 4 (by decide), k2 3 4 (by decide), k2 2 3 (by decide), k1 2 (by decide), List.mem_cons_self, fun h => ?_, fun h => ?_, k2 2 1 (by decide), List.mem_cons_self, fun h => ?_, fun h => ?_, fun h => ?_, fun h => ?_⟩ <;>
    rcases List.mem_cons.mp h with h | h
  · exact k1 4 (by decide) h
  · exact k3 4 (List.mem_singleton.mp h)
  · exact k1 3 (by decide) h
  · exact k3 3 (List.mem_singleton.mp h)
  · exact k2 4 1 (by decide) h
  · exact k4 4 (List.mem_singleton.mp h)
  · exact k2 3 1 (by decide) h
  · exact k4 3 (List.mem_singleton.mp h)
  · exact k1 1 (by decide) h.symm
  · exact k5 (List.mem_singleton.mp h)
  · exact k1 1 (by decide) h
  · exact k3 1 (List.mem_singleton.mp h)
theorem notNew (n c : Nat) (h : c < n) : c ∉ [n + 4, n + 3, n, n + 1] := by
  intro m
  simp only [List.mem_cons, List.not_mem_nil, or_false] at m
  omega
theorem merge_len (ks : List Key) (ys : List V) : (mergeK [] (ks.zip ys)).length ≤ ks.length := by
  refine Nat.le_trans (length_mergeK (ks.zip ys) []) ?_
  rw [List.length_nil, Nat.zero_add, List.length_zip]
  exact Nat.min_le_left ..
theorem pe_dictZip {X : Cx} {e e2 : Expr} {t : TA} {p p2 pos pos2 : Pos} (hc : X.calm = true) (gd : Gl X "dict") (md : X.mg "dict" = none) (gz : Gl X "zip") (mz : X.mg "zip" = none) (ha : PA X [e, e2] t)
    (hs : starEach [e, e2] X.env = (false, eval e X.env) :: starEach [e2] X.env := by rfl) (hpl : (backTo pos2 (starEach [e2] X.env)).any (·.1) = false := by rfl)
    (ho : starEach [.Call (.Name "zip" p2) [e, e2] [] pos2] X.env = (false, eval (.Call (.Name "zip" p2) [e, e2] [] pos2) X.env) :: starEach [] X.env := by rfl) :
    PE X (.Call (.Name "dict" p) [.Call (.Name "zip" p2) [e, e2] [] pos2] [] pos) (tDictZip X.K t) := by
  refine ⟨fun pins s σ H Q I h => ?_⟩
  refine wpAny_Call_Name_kw (ld_blt I gd md PyProof.Rows.boot_dict ?_)
  refine PyProof.Rows.callWith_type1 ?_ ho rfl
  rw [ho]
  show wpAny _ _ (spliced ((false, eval (.Call (.Name "zip" p2) [e, e2] [] pos2) X.env) :: backTo pos (starEach [] X.env))) _ _ s
  refine Calls.spliced_cons ?_
  refine wpAny_Call_Name_kw (ld_blt I gz mz PyProof.Rows.boot_zip (PyProof.Rows.callWith_type1 (thn (ha.run pos2 pins s σ H _ I h) fun us s1 ⟨vs, H1, I1, r1, a, b, ks, ys, ev, hA, hB, hl, q⟩ => ?_) hs hpl))
  subst ev
  obtain ⟨u1, u2, eu, ra, rb⟩ := vals2 r1
  subst eu
  cases ra
  cases rb
  obtain ⟨xs', va, ta, za⟩ := I1.tuple hA
  obtain ⟨ys', vb, tb, zb⟩ := I1.tuple hB
  obtain ⟨o1, ho1, _⟩ := id ta
  obtain ⟨o2, ho2, _⟩ := id tb
  obtain ⟨hrel, hlen, hks⟩ := zip_rel va vb hl
  have ka : s1.heap.IsTuple a xs'.toArray := ta
  have kb : s1.heap.IsTuple b ys'.toArray := tb
  have lb := vb.length
  have big : sysModules < s1.heap.objs.size := I1.big
  have xl : xs'.length ≤ sizeLine := by rw [hlen, ← List.length_map (f := kV) (as := ks)]; exact za
  have la : xs'.toArray.size = ys'.toArray.size := by simp; omega
  have g1 := Heap.lt_size ho1
  have g2 := Heap.lt_size ho2
  refine RZ.call_zipT (show s1.heap.IsTuple a xs'.toArray from ta) (show s1.heap.IsTuple b ys'.toArray from tb) fun h1 hz hTI hTO n1 n2 hsz hk => ?_
  refine Calls.spliced_nil ?_
  have S : ZipSep2 (s1.heap.objs.size + 4) (s1.heap.objs.size + 2) (s1.heap.objs.size + 3) s1.heap.objs.size (s1.heap.objs.size + 1) [s1.heap.objs.size, a] [s1.heap.objs.size + 1, b]  := sepNat _ _ _ g1 g2
  refine PySem.call_dict_pairs (knd := mixKind X.prog X.w) (kvs := ks.zip ys') (s := { s1 with heap := h1 }) (zipTup _ _ _ _ _ a b S xs'.toArray ys'.toArray la) (I1.ok.hd hc)
    ⟨hz, hTI, hTO, ⟨n1, ka.at fun o e => hk _ _ e⟩, n2, kb.at fun o e => hk _ _ e⟩ ⟨?_, fun i k v ⟨e1, e2⟩ => ?_⟩ ?_ fun h2 tk hd k2 => ?_
  · rw [List.length_zip, ← lb]; simp; omega
  · obtain ⟨c, c1, c2⟩ := hks i k v (by simpa using e1) (by simpa using e2)
    exact ⟨c, c1, c2 _ _⟩
  · simpa using xl
  · have hm : (h1.objs.size == sysModules) = false := beq_eq_false_iff_ne.mpr (Nat.ne_of_gt (by rw [hsz]; exact Nat.lt_of_lt_of_le big (Nat.le_add_right _ _)))
    have hz2 : (mergeK [] (ks.zip ys)).length ≤ sizeLine := Nat.le_trans (merge_len ks ys) (by rw [← hlen]; exact xl)
    have hk2 : ∀ c o, s1.heap.get? c = some o → h2.get? c = some o := fun c o e => by
      have lt : (c : Nat) < s1.heap.objs.size := Heap.lt_size e
      exact k2 c o (notNew _ _ lt) (hk c o e)
    exact ⟨.ref h1.objs.size, upd H1 h1.objs.size (.dK (mergeK [] (ks.zip ys))), I1.laid (t' := tk) hk2 (by rw [hsz]; omega) (show ObjOk X.prog X.w _ _ _ (.dK (mergeK [] (ks.zip ys))) from ⟨hz2, hm, merged [] (ks.zip ys'), KV.merge hrel .nil, hd⟩), rfl, q _ (I1.hok.fresh (by rw [hsz]; omega))⟩
end Td
/-! tuple(d.items()). -/
namespace Td
open PySem PySem.Spec PyProof.Rows L2
section
variable {prog : Program} {w : World} {K : Type} [DecidableEq K] {knd : KeyKind prog w K} {A : Around} {E : Value → Shared → Prop} {s : Shared} {r d : Addr} {kvs : List (K × Value)} {ep : Nat}
/-- what a heap holds behind the items are taken -/
def Taken (knd : KeyKind prog w K) (kvs : List (K × Value)) (h h' : Heap) (as : List Addr) : Prop :=
  (∀ b o, h.get? b = some o → h'.get? b = some o) ∧ as.length = kvs.length ∧ PySem.W.KdxG knd kvs h.objs.size h' as ∧
  ∃ acc c, acc.toList = as.map Value.ref ∧ h'.get? h.objs.size = some { cls := .type "list", dict := none, data := .seq acc c, slots := #[] }
theorem collect_view {Q : List Value → Shared → Prop} (hh : A.handled = none) (hv : s.heap.IsItemsView r d) (hm : s.heap.DictAt knd d kvs ep) (hn : kvs.length ≤ sizeLine)
    (hQ : ∀ (h' : Heap) (tk : Nat) (as : List Addr), Taken knd kvs s.heap h' as → Q (as.map Value.ref) { s with heap := h', toks := tk }) :
    wpAny (model prog w) A (collect (.ref r)) Q E s := by
  have lr : r < s.heap.objs.size := by obtain ⟨o, e, _⟩ := hv; exact Heap.lt_size e
  have ld : d < s.heap.objs.size := hm.lt_size
  have e0 : (s.heap.push { cls := .type "list", data := .seq ([] : List Value).toArray }).get? s.heap.objs.size = some { cls := .type "list", data := .seq #[] 0 } := Heap.get?_push_size _ rfl
  have sz : (s.heap.push { cls := .type "list", data := .seq ([] : List Value).toArray }).objs.size = s.heap.objs.size + 1 := Heap.size_push ..
  have step : ∀ (as : List Addr) (acc : Array Value) (c : Nat) (h' : Heap) (tk : Nat), Taken knd kvs s.heap h' as → acc.toList = as.map Value.ref → h'.get? s.heap.objs.size = some { cls := .type "list", dict := none, data := .seq acc c, slots := #[] } →
      Q acc.toList { s with heap := h', toks := tk } := fun as acc c h' tk t e _ => by rw [e]; exact hQ h' tk as t
  unfold collect
  refine wpAny_bind (wpAny_runValue (codeAny_builtin F.entry_proto_collect ?_))
  rw [Around.under_plainId F.plain_proto_collect _]
  show wpAny _ A.in1 (newList [] >>= fun l => again (.builtin "list.__iadd__" ⟨[l, .ref r], []⟩)) _ _ s
  refine wpAny_bind (wpAny_newObj_type (wpAny_pure ⟨plainId_quiet F.plain_list_iadd _, codeAny_builtin F.entry_list_iadd ?_⟩))
  rw [Around.under_plainId F.plain_list_iadd _]
  show wpAny _ A.in1 (Builtin.List.listExtendWith (.ref s.heap.objs.size) (.ref r) (.ref s.heap.objs.size)) _ _ _
  refine wpAny_mono (PySem.W.kdx_extend (A := A) (knd := knd) (kvs := kvs) (ep := ep) (d := d) (s := { s with heap := s.heap.push { cls := .type "list", data := .seq ([] : List Value).toArray } })
    (R := fun rr s' => rr = .ok (.ret (.ref s.heap.objs.size)) ∧ ∃ (h' : Heap) (tk : Nat) (as : List Addr) (acc : Array Value) (c : Nat), s' = { s with heap := h', toks := tk } ∧ Taken knd kvs s.heap h' as ∧ acc.toList = as.map Value.ref ∧
      h'.get? s.heap.objs.size = some { cls := .type "list", dict := none, data := .seq acc c, slots := #[] }) hh (let ⟨o, e, c⟩ := hv; ⟨o, Heap.get?_push_of_some _ e, c⟩) (hm.push _) s.heap.objs.size (Nat.ne_of_gt lr) (Nat.ne_of_lt ld) _ 0 e0
    (fun h' tk acc c as k e hl hG ha => ⟨rfl, h', tk, as, acc, c, rfl, ⟨fun b o q => k b o (Nat.ne_of_lt (Heap.lt_size q)) (Heap.get?_push_of_some _ q), hl, hG.low (by rw [sz]; exact Nat.le_succ _), acc, c, ha, e⟩, ha, e⟩) hn) (fun f s' h => ?_) (fun e s' h => absurd h.1 (by simp))
  cases f with
  | done f =>
    obtain ⟨e, h', tk, as, acc, c, rfl, t, ha, g⟩ := h
    cases e
    exact wpAny_bind (wpAny_load g (wpAny_pure (step as acc c h' tk t ha g)))
  | again c' =>
    refine ⟨h.1, codeAny_mono h.2 fun rr s2 q => ?_⟩
    obtain ⟨rfl, h', tk, as, acc, c, rfl, t, ha, g⟩ := q
    show wpAny _ A (load s.heap.objs.size >>= _) _ _ _
    exact wpAny_bind (wpAny_load g (wpAny_pure (step as acc c h' tk t ha g)))
theorem code_tuple_view {Q : Value → Shared → Prop} (hh : A.handled = none) (hv : s.heap.IsItemsView r d) (hm : s.heap.DictAt knd d kvs ep) (hn : kvs.length ≤ sizeLine)
    (hQ : ∀ (h' : Heap) (tk : Nat) (as : List Addr), Taken knd kvs s.heap h' as → Q (.ref h'.objs.size) { s with heap := h'.push { cls := .type "tuple", data := .seq (as.map Value.ref).toArray }, toks := tk }) :
    codeAny (model prog w) A (.call (.builtin "tuple.__new__") ⟨[.type "tuple", .ref r], []⟩) (wants Q E) s := by
  refine codeAny_of_tree ?_
  show wpAny _ A.in1 (do checkBuiltinCall "tuple.__new__" ⟨[.type "tuple", .ref r], []⟩; again (.builtin "tuple.__new__" ⟨[.type "tuple", .ref r], []⟩)) _ _ s
  refine wpAny_bind (wpAny_of_eq (F.newCall_tuple_1 _) (wpAny_pure ⟨plainId_quiet F.plain_tuple_new _, codeAny_builtin F.entry_tuple_new ?_⟩))
  rw [Around.under_plainId F.plain_tuple_new _]
  have k1 := sub_tuple_self
  have k2 := init_tuple_lookup
  have k3 := madeHere_tuple
  have k4 : s.TypeIs (.ref r) "dict_items" := hv.typeIs
  have k5 : A.in1.handled = none := hh
  wp_walk using wpAny_typeOf k4, collect_view (A := A.in1) (knd := knd) (kvs := kvs) (ep := ep) k5 hv hm hn
  intro h' tk as t
  show wpAny _ _ (Builtin.Tuple.tupleExact (as.map Value.ref).toArray >>= fun v => ret v) _ _ _
  unfold Builtin.Tuple.tupleExact
  exact wpAny_bind (wpAny_newObj_type (wpAny_pure (hQ h' tk as t)) (by show (as.map Value.ref).toArray.size ≤ sizeLine; rw [List.size_toArray, List.length_map, t.2.1]; exact hn))
theorem call_tuple_view {Q : Value → Shared → Prop} (hh : A.handled = none) (hv : s.heap.IsItemsView r d) (hm : s.heap.DictAt knd d kvs ep) (hn : kvs.length ≤ sizeLine)
    (hQ : ∀ (h' : Heap) (tk : Nat) (as : List Addr), Taken knd kvs s.heap h' as → Q (.ref h'.objs.size) { s with heap := h'.push { cls := .type "tuple", data := .seq (as.map Value.ref).toArray }, toks := tk }) :
    wpAny (model prog w) A (call (.type "tuple") [.ref r]) Q E s := by
  refine callType_codes (Q₁ := fun obj s₁ => s₁.TypeIs obj "tuple" ∧ Q obj s₁) F.called_tuple (F.typeCall_tuple_1 _) F.entry_object_init
    (code_tuple_view (A := A.in1) hh hv hm hn fun h' tk as t => ⟨⟨_, Heap.get?_push_size _ rfl, rfl⟩, hQ h' tk as t⟩) fun obj s1 q => ?_
  exact ⟨q.1, F.args_object_init_2 obj _, object_init_meets F.called_tuple.init.lookup F.called_tuple.made (by decide) prog w A.in1 _ s1 ⟨q.1, rfl, q.2⟩⟩
end
/-- tuple(d.items()): a new tuple of new pairs -/
def tTupItems (te : TE) : TE := fun σ H Q => te σ H fun x H1 => ∃ (d : Addr) (kvs : List (Key × V)), x = .ref d ∧ H1 d = some (.dK kvs) ∧
  ∀ (H' : Hp) (p : Addr) (ts : List Addr), Same H1 H' → H1 p = none → H' p = some (.tup (ts.map V.ref)) → Paired (fun (t : Addr) (q : Key × V) => H' t = some (.tup [kV q.1, q.2])) ts kvs → Q (.ref p) H'
section
variable {X : Cx} {e : Expr} {te : TE} {p apos cpos pos : Pos}
theorem pe_tupleItems (hc : X.calm = true) (he : PE X e te) (hg : Gl X "tuple") (hm : X.mg "tuple" = none) (hbase : attributeBase e "items" X.env (eval e X.env) = eval e X.env := by rfl) (hline : (apos.endLine == cpos.line) = true := by rfl)
    (hs : starEach [.Call (.Attribute e "items" apos) [] [] cpos] X.env = (false, eval (.Call (.Attribute e "items" apos) [] [] cpos) X.env) :: starEach [] X.env := by rfl) :
    PE X (.Call (.Name "tuple" p) [.Call (.Attribute e "items" apos) [] [] cpos] [] pos) (tTupItems te) := by
  refine ⟨fun pins s σ H Q I hq => ?_⟩
  refine wpAny_Call_Name_kw (ld_blt I hg hm PyProof.Rows.boot_tuple (PyProof.Rows.callWith_type1 ?_ hs rfl))
  rw [hs]
  show wpAny _ _ (spliced ((false, eval (.Call (.Attribute e "items" apos) [] [] cpos) X.env) :: backTo pos (starEach [] X.env))) _ _ s
  refine Calls.spliced_cons (wpAny_Call_method (T := "dict") (id := "dict.items") hbase rfl hline F.plainAttrs_dict F.slot_dict_items F.type_dict_items (thn (he.run pins s σ H _ I hq) fun u s1 ⟨x, H1, I1, rx, d, kvs, ex, hd, q⟩ => ?_))
  subst ex
  obtain rfl : u = Value.ref d := rx
  obtain ⟨hz, n0, vs, kv, hdo⟩ := I1.hok d _ hd
  obtain ⟨ep, hat⟩ := hdo.dictAt
  have lk : kvs.length = vs.length := Paired.length kv
  have I2 : Inv X pins σ H1 { s1 with heap := s1.heap.push { cls := .type "dict_items", data := .fields #[.ref d] } } := I1.kept (t' := s1.toks) fun b o q => Heap.get?_push_of_some _ q
  refine ⟨hdo.typeIs, hdo.mapOf.noDict, ?_⟩
  show wpAny _ _ (callWith cpos (.builtin "dict.items") [.ref d] [] []) _ X.xe s1
  refine method_meetsIn F.slot_dict_items F.entry_dict_items rfl (PySem.evalArgs_none ⟨rfl, hdo.typeIs, F.args_dict_items_1 _, _, meets_dict_items (mixKind X.prog X.w) d n0, ⟨vs, hdo⟩, ?_⟩)
  refine Calls.spliced_nil ?_
  refine call_tuple_view (knd := mixKind X.prog X.w) (kvs := vs) (ep := ep) (I1.ok.hd hc) ⟨_, Heap.get?_push_size _ rfl, rfl, rfl⟩ (hat.push _) (by omega) fun h' tk as ⟨k, hl, hG, acc, c, ha, hS⟩ => ?_
  obtain ⟨H', k1, k2, k3, k4, k5, k6, J⟩ := LiI.items_laid (tk := tk) I2 hz kv k hS hl hG ha
  have hx : (as.map V.ref).length ≤ sizeLine := by rw [List.length_map, hl]; omega
  have J2 := J.laid (a := h'.objs.size) (o := .tup (as.map V.ref)) (t' := tk) (h' := h'.push { cls := .type "tuple", data := .seq (as.map Value.ref).toArray }) (fun b o e => Heap.get?_push_of_some _ e) (Nat.le_refl _) ⟨hx, as.map Value.ref, LiI.vals_refs as, IsTup.new _ _⟩
  have hp : H' h'.objs.size = none := J.hok.fresh (Nat.le_refl _)
  refine ⟨.ref h'.objs.size, _, J2, rfl, q _ _ as (fun b o e => Same.new hp _ _ _ (k1 b o e)) ?_ upd_same ?_⟩
  · cases e1 : H1 h'.objs.size with
    | none => rfl
    | some o => rw [k1 _ _ e1] at hp; cases hp
  · exact Paired.mono (fun t q e => Same.new hp _ _ _ e) k6
end
end Td
/-! A run hangs on the words it noted and peeked at. -/
namespace Td
open PySem PySem.Spec PyProof.Rows L2
/-- noted or peeked -/
def RS.seen (st : RS) (c : Str) : Prop := (getE st.noted c).isSome = true ∨ (getE st.peeked c).isSome = true
theorem sdE_get (L : Env) (k v j : Str) : getE (sdE L k v) j = if j = k then (match getE L k with | some u => some u | none => some v) else getE L j := by
  unfold sdE
  cases h : getE L k with
  | some u =>
    simp only [Option.isSome_some, if_true]
    by_cases e : j = k
    · rw [if_pos e, e, h]
    · rw [if_neg e]
  | none =>
    simp only [Option.isSome_none, Bool.false_eq_true, if_false]
    rw [getE_put]
theorem sdE_keep {L : Env} {k v j : Str} (h : (getE L j).isSome = true) : (getE (sdE L k v) j).isSome = true := by
  rw [sdE_get]
  split
  · split <;> rfl
  · exact h
theorem sdE_new (L : Env) (k v : Str) : (getE (sdE L k v) k).isSome = true := by
  rw [sdE_get, if_pos rfl]
  split <;> rfl
mutual
theorem seen_R (kn : Str → Str) (d c : Str) : ∀ (r : Row) (st : RS), st.seen c → (runR kn d r st).1.seen c
  | .rd pk a s, st, h => by
    simp only [runR]
    cases pk
    · rcases h with h | h
      · exact .inl (sdE_keep h)
      · exact .inr h
    · rcases h with h | h
      · exact .inl h
      · exact .inr (sdE_keep h)
  | .put s u, st, h => by simp only [runR]; exact h
  | .give s, st, h => by simp only [runR]; exact h
  | .say s, st, h => by simp only [runR]; exact h
  | .wr a s, st, h => by simp only [runR]; exact h
  | .ite s u y n, st, h => by
    simp only [runR]
    split
    · exact seen_Rs kn d c y st h
    · exact seen_Rs kn d c n st h
theorem seen_Rs (kn : Str → Str) (d c : Str) : ∀ (rs : List Row) (st : RS), st.seen c → (runRs kn d rs st).1.seen c
  | [], st, h => by simp only [runRs]; exact h
  | r :: rs, st, h => by
    have h1 := seen_R kn d c r st h
    by_cases hb : (runR kn d r st).2 = true
    · rw [runRs_yes _ hb]; exact h1
    · rw [runRs_no _ hb]; exact seen_Rs kn d c rs _ h1
end
mutual
/-- words that agree where the run looked give the same run -/
theorem same_R (kn k2 : Str → Str) (d : Str) : ∀ (r : Row) (st : RS), (∀ c, (runR kn d r st).1.seen c → k2 c = kn c) → runR k2 d r st = runR kn d r st
  | .rd pk a s, st, h => by
    have e : k2 a = kn a := by
      refine h a ?_
      simp only [runR]
      cases pk
      · exact .inl (sdE_new ..)
      · exact .inr (sdE_new ..)
    simp only [runR, e]
  | .put s u, st, h => by simp only [runR]
  | .give s, st, h => by simp only [runR]
  | .say s, st, h => by simp only [runR]
  | .wr a s, st, h => by simp only [runR]
  | .ite s u y n, st, h => by
    simp only [runR] at h ⊢
    split
    · rename_i e
      rw [if_pos e] at h
      exact same_Rs kn k2 d y st h
    · rename_i e
      rw [if_neg e] at h
      exact same_Rs kn k2 d n st h
theorem same_Rs (kn k2 : Str → Str) (d : Str) : ∀ (rs : List Row) (st : RS), (∀ c, (runRs kn d rs st).1.seen c → k2 c = kn c) → runRs k2 d rs st = runRs kn d rs st
  | [], st, h => by simp only [runRs]
  | r :: rs, st, h => by
    have h1 : runR k2 d r st = runR kn d r st := by
      refine same_R kn k2 d r st fun c hc => h c ?_
      by_cases hb : (runR kn d r st).2 = true
      · rw [runRs_yes _ hb]; exact hc
      · rw [runRs_no _ hb]; exact seen_Rs kn d c rs _ hc
    by_cases hb : (runR kn d r st).2 = true
    · rw [runRs_yes _ hb, runRs_yes _ (by rw [h1]; exact hb), h1]
    · have hb2 : ¬ (runR k2 d r st).2 = true := by rw [h1]; exact hb
      rw [runRs_no _ hb, runRs_no _ hb2, h1]
      exact same_Rs kn k2 d rs _ fun c hc => h c (by rw [runRs_no _ hb]; exact hc)
end
/-- what is noted is what was told -/
def RS.tells (kn : Str → Str) (st : RS) : Prop := (∀ c u, (c, u) ∈ st.noted → u = kn c) ∧ ∀ c u, (c, u) ∈ st.peeked → u = kn c
theorem mem_put {L : Env} {k v c u : Str} (h : (c, u) ∈ putE L k v) : (c, u) ∈ L ∨ (c = k ∧ u = v) := by
  unfold putE at h
  split at h
  · obtain ⟨p, hp, e⟩ := List.mem_map.mp h
    split at e
    · rename_i e2
      cases e
      exact .inr ⟨e2, rfl⟩
    · subst e; exact .inl hp
  · rcases List.mem_append.mp h with h | h
    · exact .inl h
    · rw [List.mem_singleton] at h
      cases h
      exact .inr ⟨rfl, rfl⟩
theorem mem_sd {L : Env} {k v c u : Str} (h : (c, u) ∈ sdE L k v) : (c, u) ∈ L ∨ (c = k ∧ u = v) := by
  unfold sdE at h
  split at h
  · exact .inl h
  · exact mem_put h
mutual
theorem true_R (kn : Str → Str) (d : Str) : ∀ (r : Row) (st : RS), st.tells kn → (runR kn d r st).1.tells kn
  | .rd pk a s, st, h => by
    simp only [runR]
    refine ⟨fun c u hc => ?_, fun c u hc => ?_⟩
    · cases pk
      · rcases mem_sd hc with q | ⟨rfl, rfl⟩
        · exact h.1 c u q
        · rfl
      · exact h.1 c u hc
    · cases pk
      · exact h.2 c u hc
      · rcases mem_sd hc with q | ⟨rfl, rfl⟩
        · exact h.2 c u q
        · rfl
  | .put s u, st, h => by simp only [runR]; exact h
  | .give s, st, h => by simp only [runR]; exact h
  | .say s, st, h => by simp only [runR]; exact h
  | .wr a s, st, h => by simp only [runR]; exact h
  | .ite s u y n, st, h => by
    simp only [runR]
    split
    · exact true_Rs kn d y st h
    · exact true_Rs kn d n st h
theorem true_Rs (kn : Str → Str) (d : Str) : ∀ (rs : List Row) (st : RS), st.tells kn → (runRs kn d rs st).1.tells kn
  | [], st, h => by simp only [runRs]; exact h
  | r :: rs, st, h => by
    have h1 := true_R kn d r st h
    by_cases hb : (runR kn d r st).2 = true
    · rw [runRs_yes _ hb]; exact h1
    · rw [runRs_no _ hb]; exact true_Rs kn d rs _ h1
end
/-- the told words agree with what a run noted -/
def agree (kn : Str → Str) (st : RS) : Bool := (st.noted ++ st.peeked).all fun p => decide (kn p.1 = p.2)
theorem agree_iff (kn : Str → Str) (st : RS) : agree kn st = true ↔ st.tells kn := by
  unfold agree RS.tells
  rw [List.all_append, Bool.and_eq_true, List.all_eq_true, List.all_eq_true]
  constructor
  · rintro ⟨h1, h2⟩
    exact ⟨fun c u h => (of_decide_eq_true (h1 _ h)).symm, fun c u h => (of_decide_eq_true (h2 _ h)).symm⟩
  · rintro ⟨h1, h2⟩
    exact ⟨fun p h => decide_eq_true (h1 p.1 p.2 h).symm, fun p h => decide_eq_true (h2 p.1 p.2 h).symm⟩
theorem get_mem {L : Env} {c : Str} (h : (getE L c).isSome = true) : ∃ u, (c, u) ∈ L := by
  obtain ⟨u, hu⟩ := Option.isSome_iff_exists.mp h
  unfold getE at hu
  obtain ⟨p, hp, e⟩ := Option.map_eq_some_iff.mp hu
  have h1 := List.find?_some hp
  have h2 := List.mem_of_find?_eq_some hp
  have h3 : p.1 = c := of_decide_eq_true h1
  exact ⟨p.2, by rw [← h3]; exact h2⟩
/-- what two answers show -/
def RS.shows (st s2 : RS) (dv : Bool) : Prop := st.noted = s2.noted ∧ st.peeked = s2.peeked ∧ st.said = s2.said ∧ st.written = s2.written ∧ (dv = true → st.given = s2.given)
theorem hangs (k1 k2 : Str → Str) (d : Str) (rs : List Row) (st : RS) (dv : Bool) (t : ∀ kn, st.tells kn) :
    agree k1 (runRs k1 d rs st).1 = true ∧ (agree k2 (runRs k1 d rs st).1 = true ↔ (runRs k1 d rs st).1.shows (runRs k2 d rs st).1 dv) := by
  have h1 := true_Rs k1 d rs st (t k1)
  have h2 := true_Rs k2 d rs st (t k2)
  refine ⟨(agree_iff _ _).mpr h1, fun h => ?_, fun h => ?_⟩
  · have a := (agree_iff _ _).mp h
    have e := same_Rs k1 k2 d rs st fun c hc => by
      rcases hc with hc | hc
      · obtain ⟨u, hu⟩ := get_mem hc
        rw [← a.1 c u hu, ← h1.1 c u hu]
      · obtain ⟨u, hu⟩ := get_mem hc
        rw [← a.2 c u hu, ← h1.2 c u hu]
    rw [e]
    exact ⟨rfl, rfl, rfl, rfl, fun _ => rfl⟩
  · obtain ⟨e1, e2, _⟩ := h
    rw [agree_iff]
    exact ⟨fun c u hc => h2.1 c u (by rw [← e1]; exact hc), fun c u hc => h2.2 c u (by rw [← e2]; exact hc)⟩
end Td
/-! == of two dicts that hold data. -/
namespace Td
open PySem PySem.Spec PyProof.Rows L2
/-- one dict's values against the other's -/
def hitsV (K : PySem.W.Frag) (H : Hp) (ls : List (Key × V)) : List (Key × V) → Bool → Prop
  | [], r => r = true
  | p :: ps, r => ∃ (u : V) (d e : PyData) (r' : Bool), valV ls p.1 = some u ∧ Dp K H p.2 d ∧ Dp K H u e ∧ d.canLay0 = true ∧ e.canLay0 = true ∧ d.depth ≤ 60 ∧ hitsV K H ls ps r' ∧ r = (PyData.eqv d e && r')
def rEqK (K : PySem.W.Frag) : R2 := fun x y H Q => ∃ (a b : Addr) (ks ls : List (Key × V)) (r : Bool), x = .ref a ∧ y = .ref b ∧ H a = some (.dK ks) ∧ H b = some (.dK ls) ∧ ks.length = ls.length ∧ hitsV K H ls ks r ∧ Q (.bl r) H
section
variable {X : Cx} {pins : List (Addr × Obj)} {σ : L2.St} {H : Hp} {s : Shared}
theorem hits_data (I : Inv X pins σ H s) {A : Around} (hu : A.units + 60 < cLine) {ls : List (Key × V)} {vb : List (Key × Value)} (rb : KV ls vb) : ∀ {ks : List (Key × V)} {va : List (Key × Value)} {r : Bool}, KV ks va → hitsV X.K H ls ks r → PySem.W.KeqHitsP X.prog X.w A s vb va r
  | [], _, r, .nil, h => by
    have h : r = true := h
    subst h
    exact .nil
  | p :: ps, _, r, .cons (b := q) h t, hp => by
    obtain ⟨u, d, e, r', e1, d1, d2, c1, c2, l, hr, rfl⟩ := hp
    obtain ⟨h1, h2⟩ := h
    have rr : RelO (some u) (valueAt vb p.1) := by rw [← e1]; exact rb.val p.1
    obtain ⟨y, hy, ry⟩ := rr.some_of
    obtain ⟨key, v⟩ := q
    have h1' : p.1 = key := h1
    rw [h1'] at hy
    obtain ⟨as, g1⟩ := Dp.reads I d p.2 v d1 h2
    obtain ⟨bs, g2⟩ := Dp.reads I e u y d2 ry
    exact .hit hy (SeqAt.EqAt.eqP (SeqAt.eqAt_reads d e A s v y as bs g1 g2 c1 c2 (by have := Nat.min_le_left d.depth e.depth; omega))) (hits_data I hu rb t hr)
theorem op_eqK (hu : X.A.units + 64 < cLine) : OpR X (compareOp .Eq) (rEqK X.K) := by
  intro pins s σ H x y v u Q I rx ry h
  obtain ⟨a, b, ks, ls, r, rfl, rfl, ea, eb, hl, hh, q⟩ := h
  obtain rfl : v = .ref a := rx
  obtain rfl : u = .ref b := ry
  obtain ⟨_, ya, va, ra, da⟩ := dk_of I.hok ea
  obtain ⟨_, yb, vb, rb, db⟩ := dk_of I.hok eb
  refine PySem.W.rcP_dicts (knd := mixKind X.prog X.w) (r := r) ya yb da db (by omega) (fun _ => hits_data I (A := X.A.in1) (by show X.A.units + 1 + 60 < cLine; omega) rb ra hh) _ _ ?_
  have e : (va.length == vb.length && r) = r := by
    have h1 : va.length = vb.length := by rw [← Paired.length ra, ← Paired.length rb, hl]
    rw [h1]; simp
  rw [e]
  exact ⟨.bl r, H, I, rfl, q⟩
end
/-! ### the data of an answer -/
theorem wr_eqv (p q : Str × Str) : PyData.eqv (wrD p) (wrD q) = decide (p = q) := by
  obtain ⟨a, b⟩ := p
  obtain ⟨c, d⟩ := q
  unfold wrD
  simp only [PyData.eqv, PyData.eqvAll, Prod.mk.injEq, Bool.and_true, Bool.decide_and]
  congr 1
theorem env_eqvAll : ∀ L M : Env, PyData.eqvAll (L.map wrD) (M.map wrD) = decide (L = M)
  | [], [] => rfl
  | [], _ :: _ => rfl
  | _ :: _, [] => rfl
  | p :: L, q :: M => by
    rw [List.map_cons, List.map_cons]
    simp only [PyData.eqvAll, wr_eqv, env_eqvAll L M, List.cons.injEq, Bool.decide_and]
theorem strs_eqvAll : ∀ L M : List Str, PyData.eqvAll (L.map PyData.str) (M.map PyData.str) = decide (L = M)
  | [], [] => rfl
  | [], _ :: _ => rfl
  | _ :: _, [] => rfl
  | p :: L, q :: M => by
    rw [List.map_cons, List.map_cons]
    simp only [PyData.eqvAll, PyData.eqv, strs_eqvAll L M, List.cons.injEq, Bool.decide_and]
    congr 1
theorem nm_ok {z : Str} (h : isNm z = true) : PyData.strOk z = true := by
  unfold isNm at h
  simp only [Bool.and_eq_true] at h
  have h2 := h.2
  unfold PyData.strOk
  rw [← Array.all_toList]
  rw [List.all_eq_true] at h2 ⊢
  intro c hc
  have := h2 c hc
  unfold lowc at this
  simp only [Bool.and_eq_true, decide_eq_true_eq] at this
  exact decide_eq_true (by omega)
theorem env_lay : ∀ L : Env, (∀ p ∈ L, isNm p.1 = true ∧ isNm p.2 = true) → PyData.canLayAll0 (L.map wrD) = true
  | [], _ => rfl
  | p :: L, h => by
    have h1 := h p List.mem_cons_self
    have h2 := env_lay L fun q hq => h q (List.mem_cons_of_mem _ hq)
    rw [List.map_cons]
    unfold wrD at h2 ⊢
    simp only [PyData.canLayAll0, PyData.canLay0, nm_ok h1.1, nm_ok h1.2, h2]
    rfl
theorem strs_lay : ∀ L : List Str, (∀ z ∈ L, isNm z = true) → PyData.canLayAll0 (L.map PyData.str) = true
  | [], _ => rfl
  | p :: L, h => by
    have h2 := strs_lay L fun q hq => h q (List.mem_cons_of_mem _ hq)
    rw [List.map_cons]
    simp only [PyData.canLayAll0, PyData.canLay0, nm_ok (h p List.mem_cons_self), h2]
    rfl
theorem env_deep : ∀ L : Env, PyData.depthAll (L.map wrD) ≤ 2
  | [] => by simp [PyData.depthAll]
  | p :: L => by
    rw [List.map_cons]
    unfold wrD
    have := env_deep L
    unfold wrD at this
    simp only [PyData.depthAll, PyData.depth]
    omega
theorem strs_deep : ∀ L : List Str, PyData.depthAll (L.map PyData.str) ≤ 2
  | [] => by simp [PyData.depthAll]
  | p :: L => by
    rw [List.map_cons]
    have := strs_deep L
    simp only [PyData.depthAll, PyData.depth]
    omega
/-! ### all that a run holds are names -/
structure RS.Nm (st : RS) : Prop where
  sl : ∀ p ∈ st.slots, isNm p.2 = true
  no : ∀ p ∈ st.noted, isNm p.1 = true ∧ isNm p.2 = true
  pe : ∀ p ∈ st.peeked, isNm p.1 = true ∧ isNm p.2 = true
  sa : ∀ z ∈ st.said, isNm z = true
  wr : ∀ p ∈ st.written, isNm p.1 = true ∧ isNm p.2 = true
  gi : isNm st.given = true
structure ScNm (S : Sc) (kn : Str → Str) : Prop where
  rd : ∀ c ∈ S.readable, isNm c = true ∧ isNm (kn c) = true
  so : ∀ c ∈ S.sources, isNm c = true
  wo : ∀ c ∈ S.words, isNm c = true
theorem put_mem {L : Env} {k v : Str} {p : Str × Str} (h : p ∈ putE L k v) : p ∈ L ∨ (p.1 = k ∧ p.2 = v) := by
  unfold putE at h
  split at h
  · obtain ⟨q, hq, e⟩ := List.mem_map.mp h
    split at e
    · rename_i e2
      subst e
      exact .inr ⟨e2, rfl⟩
    · subst e; exact .inl hq
  · rcases List.mem_append.mp h with h | h
    · exact .inl h
    · rw [List.mem_singleton] at h
      subst h
      exact .inr ⟨rfl, rfl⟩
theorem sd_mem {L : Env} {k v : Str} {p : Str × Str} (h : p ∈ sdE L k v) : p ∈ L ∨ (p.1 = k ∧ p.2 = v) := by
  unfold sdE at h
  split at h
  · exact .inl h
  · exact put_mem h
theorem get_has {L : Env} {k u : Str} (h : getE L k = some u) : ∃ p ∈ L, p.2 = u := by
  unfold getE at h
  obtain ⟨p, hp, e⟩ := Option.map_eq_some_iff.mp h
  exact ⟨p, List.mem_of_find?_eq_some hp, e⟩
theorem word_nm {st : RS} {d s : Str} (h : st.Nm) (hd : isNm d = true) : isNm (st.word d s) = true := by
  unfold RS.word
  cases e : getE st.slots s with
  | none => exact hd
  | some u =>
    obtain ⟨p, hp, rfl⟩ := get_has e
    exact h.sl p hp
mutual
theorem nm_R {S : Sc} {kn : Str → Str} {d : Str} (hS : ScNm S kn) (hd : isNm d = true) : ∀ (r : Row) (dep : Nat) (st : RS), okR S dep r → st.Nm → (runR kn d r st).1.Nm
  | .rd pk c s, dep, st, ok, h => by
    unfold okR at ok
    obtain ⟨c1, c2⟩ := hS.rd c ok.2.1
    have hs : ∀ p ∈ putE st.slots s (kn c), isNm p.2 = true := fun p hp => by
      rcases put_mem hp with q | ⟨_, e⟩
      · exact h.sl p q
      · rw [e]; exact c2
    have hg : ∀ L : Env, (∀ p ∈ L, isNm p.1 = true ∧ isNm p.2 = true) → ∀ p ∈ sdE L c (kn c), isNm p.1 = true ∧ isNm p.2 = true := fun L hL p hp => by
      rcases sd_mem hp with q | ⟨e1, e2⟩
      · exact hL p q
      · rw [e1, e2]; exact ⟨c1, c2⟩
    simp only [runR]
    cases pk
    · exact ⟨hs, hg _ h.no, h.pe, h.sa, h.wr, h.gi⟩
    · exact ⟨hs, h.no, hg _ h.pe, h.sa, h.wr, h.gi⟩
  | .put s u, dep, st, ok, h => by
    unfold okR at ok
    simp only [runR]
    refine ⟨fun p hp => ?_, h.no, h.pe, h.sa, h.wr, h.gi⟩
    rcases put_mem hp with q | ⟨_, e⟩
    · exact h.sl p q
    · rw [e]; exact hS.wo u ok.2
  | .give s, dep, st, ok, h => by
    simp only [runR]
    exact ⟨h.sl, h.no, h.pe, h.sa, h.wr, word_nm h hd⟩
  | .say s, dep, st, ok, h => by
    simp only [runR]
    refine ⟨h.sl, h.no, h.pe, fun z hz => ?_, h.wr, h.gi⟩
    rcases List.mem_append.mp hz with q | q
    · exact h.sa z q
    · rw [List.mem_singleton.mp q]; exact word_nm h hd
  | .wr c s, dep, st, ok, h => by
    unfold okR at ok
    simp only [runR]
    refine ⟨h.sl, h.no, h.pe, h.sa, fun p hp => ?_, h.gi⟩
    rcases List.mem_append.mp hp with q | q
    · exact h.wr p q
    · rw [List.mem_singleton.mp q]; exact ⟨hS.so c ok.2.1, word_nm h hd⟩
  | .ite s u y n, dep, st, ok, h => by
    unfold okR at ok
    simp only [runR]
    split
    · exact nm_Rs hS hd y (dep + 1) st ok.2.2.2.1 h
    · exact nm_Rs hS hd n (dep + 1) st ok.2.2.2.2 h
theorem nm_Rs {S : Sc} {kn : Str → Str} {d : Str} (hS : ScNm S kn) (hd : isNm d = true) : ∀ (rs : List Row) (dep : Nat) (st : RS), okRs S dep rs → st.Nm → (runRs kn d rs st).1.Nm
  | [], dep, st, ok, h => by simp only [runRs]; exact h
  | r :: rs, dep, st, ok, h => by
    unfold okRs at ok
    have h1 := nm_R hS hd r dep st ok.1 h
    by_cases hb : (runR kn d r st).2 = true
    · rw [runRs_yes _ hb]; exact h1
    · rw [runRs_no _ hb]; exact nm_Rs hS hd rs dep _ ok.2 h1
end
end Td
/-! A method whose first statement is super().__init__() with no more arguments. -/
namespace Td
open PySem PySem.Spec PyProof.Rows L2
/-- what is written of such a method: it stands at f in the class at C, its class cell at cc; g is the other class's __init__ -/
structure Sup (P : Program) (K : PySem.W.Frag) (qual : Str) (st : Stmt) (f C g : Addr) (fd : FuncData) : Prop where
  ex : ∃ (oc : Value) (od : Option Addr) (sl : Array (Option Value)) (kV doc pm : Value) (an : Option Addr) (ct : Value) (cc cda : Addr) (ccl : Value) (cdd : Option Addr) (vs : Array Value) (ccs : Array (Option Value)) (file : Str) (tf : Tok) (cl : Value) (cld : Option Addr) (csl : Array (Option Value)),
    fd = PySem.W.fnX "__init__" qual (defArgs st) (defBody st) (defScope st) [("__class__", cc)] .none kV doc pm an (.ref cda) ct ∧ K.lookup f = some ⟨oc, od, .func fd, sl⟩ ∧ PySem.W.codeIn K (.ref cda) qual = true ∧
    K.lookup cda = some ⟨ccl, cdd, .fields vs, ccs⟩ ∧ vs[2]? = some (.str file tf) ∧ ((P.main.file : Str) == file) = true ∧ K.lookup cc = some ⟨cl, cld, .cell (some (.ref C)), csl⟩
  cls : ∃ cd, PySem.W.clsIn K C = some cd
  mro : PySem.W.mroIn K C (.ref C) = some true
  up : PySem.W.ks_superIn K C C "__init__" = some (some (.ref g))
  ty : PySem.W.typeIn K (.ref g) = some (.type "function")
  fn : PySem.W.fnIn K g = true
  opq : PySem.W.nsIn K cStatics "thirdparty.any" = some none
  glob : PySem.W.nsIn K mainGlobals "super" = some none
  kp : PySem.W.keepIn K (.ref f) = true
def supNF (qual : Str) (st : Stmt) (cc cda : Addr) : NdefX.NF := ⟨"__init__", qual, defArgs st, defBody st, defScope st, [("__class__", cc)], cda⟩
theorem sup_tree {o : Expr} {m : Str} {ap cp : Pos} {env : PySem.Env} (hl : (ap.endLine == cp.line) = true) : eval (.Call (.Attribute o m ap) [] [] cp) env = (do
      let ov ← attributeBase o m env (eval o env)
      standAt ap.atName
      let (f, first) ← holding [ov] (getMethod ov m (plainOf o env))
      callWith cp f first (backTo cp (starEach [] env)) []) := by
  rw [arm_eval_Call]
  refine bind_congr fun ov => bind_congr fun _ => ?_
  exact mcall_line rfl hl
section
variable {P : Program} {w : World} {K : PySem.W.Frag} {mg : Str → Option Value} {base : Heap}
theorem Sup.binds {qual : Str} {st : Stmt} {f C g : Addr} {fd : FuncData} {ps : List Str} (F : Sup P K qual st f C g fd)
    (h : ∀ (kV doc pm : Value) (an : Option Addr) (cdv ct : Value) (cc : Addr) (us : List Value), us.length = ps.length → bindArgs (PySem.W.fnX "__init__" qual (defArgs st) (defBody st) (defScope st) [("__class__", cc)] .none kV doc pm an cdv ct) ⟨us, []⟩ = pure (ps.zip us)) : Binds K fd ps [] := by
  obtain ⟨oc, od, sl, kV, doc, pm, an, ct, cc, cda, ccl, cdd, vs, ccs, file, tf, cl, cld, csl, rfl, _⟩ := F.ex
  exact .all (h kV doc pm an (.ref cda) ct cc)
theorem fn_super {qual : Str} {st : Stmt} {f C g : Addr} {fd gd : FuncData} {N ps : List Str} {k : Nat} {sp spG : Sp} {p0 p1 ap cp ep : Pos} {rest : List Stmt} {ar : Arg} {us0 : List Str}
    (F : Sup P K qual st f C g fd) (hst : defBody st = .Expr (.Call (.Attribute (.Call (.Name "super" p0) [] [] p1) "__init__" ap) [] [] cp) ep :: rest)
    (S : NdefX.NScope N ps ["__class__"] (defScope st)) (hps : ps = ar.arg :: us0) (har : ((defArgs st).posonlyargs ++ (defArgs st).args).head? = some ar)
    (hline : (ap.endLine == cp.line) = true) (hks : (defScope st).names.lookup ("super" : Str) = some .globalImplicit) (htop : (P.main.scope.names.lookup ("super" : Str)).isSome = false)
    (G : FnOk P w K mg base CX0 k g gd [ar.arg] spG) (bG : Binds K gd [ar.arg] [])
    (len : ∀ vs H Q E, sp vs H Q E → vs.length = ps.length)
    (hbody : ∀ (A : Around) (outer : List PySem.Env) (s : Shared) (H : Hp) (vs : List V) (Q : VK) (E : XK) (cc cda : Addr), Room k (A.deeper (NdefX.envF (supNF qual st cc cda) f s.heap.objs.size)) → sp vs H Q E →
      ∃ (x dx : Addr) (fs : List (Str × V)) (vs' : List V), vs = .ref x :: vs' ∧ H x = some (.ins C dx fs) ∧ spG [.ref x] H (fun v H' => v = .non ∧
        ∃ t, PSs (NdefX.ncx CX0 P w K mg base N (supNF qual st cc cda) f A outer s H E) rest t ∧ t { nx := fun _ H' => Q .non H', rt := Q } (NdefX.startF N vs [none]) H') E0) :
    FnOk P w K mg base CX0 (k + 1) f fd ps sp := by
  refine ⟨len, fun A outer s H args us vs Q E hr e0 hb r hsp => ?_⟩
  obtain ⟨oc, od, sl, kV, doc, pm, an, ct, cc, cda, ccl, cdd, cvs, ccs, file, tf, cl, cld, csl, rfl, lk, hcd, lcd, hcv, hfile, lcc⟩ := F.ex
  have hl := len _ _ _ _ hsp
  have KX : K.In s.heap := e0.mod.kin.keeps fun b o e => (e0.bs b o e).1
  have lim : s.heap.NoLimit := e0.mod.nolimit.keeps fun b o e => (e0.bs b o e).1
  refine ks_codeAny_call_defAt hr.depth (KX _ _ lk) rfl lim (PySem.W.codeRec_of KX hcd) rfl hb S.nocell (fun ⟨n, _⟩ hy => S.par n (List.of_mem_zip hy).1) (fun h₁ hns kp => ?_) S.co S.gen S.kind
  show PySem.wpAt _ (A.deeper (NdefX.envF (supNF qual st cc cda) f s.heap.objs.size)) (.func (defBody st) (NdefX.envF (supNF qual st cc cda) f s.heap.objs.size)) (execs (defBody st) (NdefX.envF (supNF qual st cc cda) f s.heap.objs.size)) _ _ _
  have cells : NdefX.CellsAt (supNF qual st cc cda).cl ["__class__"] [none] s.heap H := by
    have one : ∀ y c, List.lookup y [(("__class__" : Str), cc)] = some c → y = "__class__" ∧ c = cc := fun y c e => by
      by_cases z : y = ("__class__" : Str)
      · subst z
        simp [List.lookup] at e
        exact ⟨rfl, e.symm⟩
      · have q : (y == ("__class__" : Str)) = false := by simpa using z
        simp [List.lookup, q] at e
    refine ⟨rfl, fun y c e => ?_, fun x y c e1 e2 => (one x c e1).1.trans (one y c e2).1.symm, fun i y e => ?_⟩
    · obtain ⟨_, rfl⟩ := one y c e
      exact ⟨(e0.bs _ _ (e0.mod.kin _ _ lcc)).2, some (.ref C), _, KX _ _ lcc, rfl⟩
    · cases i with
      | zero =>
        have ey : y = "__class__" := (Option.some.inj e).symm
        subst ey
        exact ⟨cc, by simp [supNF, List.lookup], fun v z => by simp at z⟩
      | succ n => simp at e
  have I : Inv (NdefX.ncx CX0 P w K mg base N (supNF qual st cc cda) f A outer s H E) [] (NdefX.startF N vs [none]) H { s with heap := h₁, toks := s.toks + (ps.zip us).length } := NdefX.inv_startN S hr.hd e0 hl r cells hns kp
  obtain ⟨x, dx, fs, vs', rfl, hx, hG⟩ := hbody A outer s H vs Q E cc cda (hr.deeper _) hsp
  cases r with
  | cons ru rr =>
    rename_i u0 us1
    obtain rfl : u0 = Value.ref x := ru
    have K1 : K.In h₁ := I.kIn
    obtain ⟨cd, hcls⟩ := F.cls
    obtain ⟨oD, hD1, hD2⟩ : ∃ oD, h₁.get? C = some oD ∧ oD.data = .cls cd := by
      unfold PySem.W.clsIn at hcls
      split at hcls
      · rename_i c d cd' sl' ho
        cases hcls
        exact ⟨_, K1 _ _ ho, rfl⟩
      · cases hcls
    obtain ⟨mA, O, _⟩ := ins_get I.hok hx
    obtain ⟨od1, J, _⟩ := O.look
    have nx : (NdefX.envF (supNF qual st cc cda) f s.heap.objs.size).kindOf "super" = some .globalImplicit := hks
    have nc : (NdefX.envF (supNF qual st cc cda) f s.heap.objs.size).kindOf "__class__" = some .free := S.frk _ (by simp)
    have ns : (NdefX.envF (supNF qual st cc cda) f s.heap.objs.size).kindOf ar.arg = some .local := S.par _ (by rw [hps]; simp)
    obtain ⟨mb, hb1, hb2⟩ := e0.mod.blt
    rw [hst]
    refine ks_wpAt_execs_cons (ks_wpAt_Expr_any ?_ I.quiet)
    refine ks_wpAt_MethodCall ?_ (sup_tree hline)
    refine ks_wpAt_super_base nx nc rfl rfl (K1 _ _ lk) rfl har rfl (K1 _ _ lcd) rfl hcv hfile htop ?_
    refine PySem.W.ks_loadName_global S.kind nx (Calls.loadGlobal_builtin (by exact e0.mod.glob.keeps I.bk) (PySem.W.mg_none_of e0.mod.kin e0.mod.glob F.glob) (by exact hb1.keeps I.bk) ((hb2 "super" (by decide)).trans (by decide +kernel : bootBuiltins "super" = some (.type "super"))) ⟨rfl, ?_⟩)
    refine wpAny_loadName_free S.kind nc rfl ⟨_, K1 _ _ lcc, rfl⟩ ?_
    refine wpAny_loadName_local S.kind ns hns (v := .ref x) ?_ ?_
    · rw [hps, List.zip_cons_cons, List.reverse_cons, List.lookup_append]
      have hn : (us0.zip us1).reverse.lookup ar.arg = none := by
        have nd := S.nd.sublist (List.take_sublist (ps.length + 1) N)
        have pre := S.pre
        rw [show (["__class__"] : List Str).length = 1 from rfl] at pre
        rw [pre, hps, List.cons_append] at nd
        exact NdefX.look_none fun v hv => (List.nodup_cons.mp nd).1 (List.mem_append_left _ (List.of_mem_zip (List.mem_reverse.mp hv)).1)
      rw [hn]
      simp [List.lookup]
    refine ks_wpAny_isType_cls hD1 hD2 ⟨rfl, ?_⟩
    refine ks_wpAny_call_super hD1 hD2 J.at_ J.cls (fun c e => by cases e) (PySem.W.looks_mroIn K1 F.mro) (fun h' eso k' => ?_)
    have K2 : K.In h' := K1.keeps k'
    have hgf : ∃ of, h'.get? g = some of ∧ of.cls = .type "function" := by
      have ht' : (K.lookup g).map (·.cls) = some (.type "function") := F.ty
      cases z : K.lookup g with
      | none => rw [z] at ht'; cases ht'
      | some of => rw [z] at ht'; exact ⟨of, K2 _ _ z, Option.some.inj ht'⟩
    obtain ⟨of, hof, hofc⟩ := hgf
    have hup := F.up
    unfold PySem.W.ks_superIn at hup
    rw [hcls] at hup
    refine ks_wpAny_getMethod_super eso (PySem.W.looks_opaque K2 F.opq) (l₀ := cd.mro) ?_ rfl K2 hup hof hofc (PySem.W.ks_ne K1 J hcls) rfl ?_
    · exact fun A Q E s k q => wpAny_bind ((PySem.W.looks_clsIn K2 hcls) A _ E s k (wpAny_pure q))
    have k3 : ∀ b o, h₁.get? b = some o → (h'.push { cls := .type "method", data := .fields #[.ref g, .ref x] }).get? b = some o := fun b o e => Heap.get?_push_of_some _ (k' b o e)
    have J2 := I.kept (t' := s.toks + (ps.zip (Value.ref x :: us1)).length + 1) k3
    refine PySem.W.callWith_M0 (g := g) (self := .ref x) (K := K) ⟨Heap.get?_push_at rfl rfl, J2.kIn⟩ F.fn (wpAny_call (ks_codeAny_call_bound (Heap.get?_push_at rfl rfl) ?_))
    refine codeAny_mono (G.run _ _ _ H ⟨[.ref x], []⟩ [.ref x] [.ref x] _ E0 (hr.deeper _) J2.env0 (bG _ [.ref x] J2.kIn rfl) (.cons rfl .nil) hG) fun r s' hq => ?_
    cases r with
    | error e => exact hq.elim
    | ok fl =>
      cases fl with
      | next => exact False.elim hq
      | brk => exact False.elim hq
      | cont => exact False.elim hq
      | ret u =>
        obtain ⟨v, H', J3, rv, ev, t, ht, hq3⟩ := J2.after hq
        refine PySem.wpAt_of_wpAny ?_
        refine wpAny_mono (ht.run [] s' _ H' _ J3 hq3) (fun fl s2 hs => ?_) fun e s2 hs => hs
        have fin : ∀ {σ' : L2.St} {H' : Hp} {v : V} {u : Value}, Inv (NdefX.ncx CX0 P w K mg base N (supNF qual st cc cda) f A outer s H E) [] σ' H' s2 → RelV v u → Q v H' → CE outer P w H s Q u s2 :=
          fun {σ' H' v u} J rv q => ⟨v, H', J.os, J.bare, J.base, J.hok, rv, q⟩
        cases fl with
        | ret u =>
          obtain ⟨v, σ', H', J, rv, q⟩ := hs
          exact fin J rv q
        | next =>
          obtain ⟨σ', H', J, q⟩ := hs
          exact fin (v := V.non) (u := Value.none) J rfl q
        | brk =>
          obtain ⟨_, _, _, q⟩ := hs
          exact False.elim q
        | cont =>
          obtain ⟨_, _, _, q⟩ := hs
          exact False.elim q
end
end Td
/-! The head's look for a program with a method that opens with super().__init__(). -/
namespace Td
open PySem PySem.Spec PyProof.Rows L2
def frU (n : Nat) (g : Addr → Option Obj) : PySem.W.Frag := He.frT g (cStatics :: He.asD g n)
abbrev FnC : Type := Option (Str × Str × Arguments × FuncBody × Scope × Addr × List Str × Addr)
/-- a function's text, its closure by names alone -/
def fnC (K : PySem.W.Frag) (p : Str × Option Str) : FnC := match K.lookup (He.fAd K p) with
  | some ⟨_, _, .func fd, _⟩ => some (fd.name, fd.qualname, fd.params, fd.body, fd.scope, fd.globals, fd.closure.map (·.1), fd.builtins)
  | _ => none
structure SupD where
  cls : Str
  oth : Str
  qual : Str
  file : Str
  params : Arguments
  body : List Stmt
  scope : Scope
def SupD.at_ (d : SupD) : Str × Option Str := (d.cls, some "__init__")
def SupD.val (d : SupD) : FnC := some ("__init__", d.qual, d.params, .stmts d.body, d.scope, mainGlobals, ["__class__"], builtinsNs)
def cellB (K : PySem.W.Frag) (d : SupD) (l : List (Str × Addr)) : Bool := match l with
  | [q] => (match K.lookup q.2 with
    | some ⟨_, _, .cell (some (.ref D)), _⟩ => decide (D = He.ga K d.cls)
    | _ => false)
  | _ => false
def noneB (v : Value) : Bool := match v with
  | .none => true
  | _ => false
def strB (x : Str) (v : Option Value) : Bool := match v with
  | some (.str f _) => x == f
  | _ => false
def fileB (K : PySem.W.Frag) (d : SupD) (v : Value) : Bool := match v with
  | .ref cda => (match K.lookup cda with
    | some ⟨_, _, .fields vs, _⟩ => strB d.file (vs[2]?)
    | _ => false)
  | _ => false
theorem cellB_ok {K : PySem.W.Frag} {d : SupD} {l : List (Str × Addr)} (h : cellB K d l = true) : ∃ x cc c1 c2 c4, l = [(x, cc)] ∧ K.lookup cc = some ⟨c1, c2, .cell (some (.ref (He.ga K d.cls))), c4⟩ := by
  unfold cellB at h
  split at h
  · rename_i q
    split at h
    · rename_i c1 c2 D c4 e
      exact ⟨q.1, q.2, c1, c2, c4, rfl, by rw [e, of_decide_eq_true h]⟩
    · cases h
  · cases h
theorem noneB_ok {v : Value} (h : noneB v = true) : v = .none := by
  cases v with
  | none => rfl
  | _ => cases h
theorem strB_ok {x : Str} {v : Option Value} (h : strB x v = true) : ∃ f t, v = some (.str f t) ∧ (x == f) = true := by
  unfold strB at h
  split at h
  · rename_i f t
    exact ⟨f, t, rfl, h⟩
  · cases h
theorem fileB_ok {K : PySem.W.Frag} {d : SupD} {v : Value} (h : fileB K d v = true) : ∃ cda f1 f2 vs f4 f t, v = .ref cda ∧ K.lookup cda = some ⟨f1, f2, .fields vs, f4⟩ ∧ vs[2]? = some (.str f t) ∧ (d.file == f) = true := by
  unfold fileB at h
  split at h
  · rename_i cda
    split at h
    · rename_i f1 f2 vs f4 e
      obtain ⟨f, t, h1, h2⟩ := strB_ok h
      exact ⟨cda, f1, f2, vs, f4, f, t, rfl, e, h1, h2⟩
    · cases h
  · cases h
def supFn (K : PySem.W.Frag) (d : SupD) : Bool := match K.lookup (He.fAd K d.at_) with
  | some ⟨_, _, .func fd, _⟩ => cellB K d fd.closure && (noneB fd.defaults && (fileB K d fd.code && PySem.W.codeIn K fd.code d.qual))
  | _ => false
def supB (K : PySem.W.Frag) (d : SupD) : Bool := supFn K d && ((PySem.W.clsIn K (He.ga K d.cls)).isSome && (decide (PySem.W.mroIn K (He.ga K d.cls) (.ref (He.ga K d.cls)) = some true) && (He.eqO (PySem.W.ks_superIn K (He.ga K d.cls) (He.ga K d.cls) "__init__") (some (some (.ref (He.fAd K (d.oth, some "__init__"))))) &&
  (decide (PySem.W.typeIn K (.ref (He.fAd K (d.oth, some "__init__"))) = some (.type "function")) && (PySem.W.fnIn K (He.fAd K (d.oth, some "__init__")) && (He.eqO (PySem.W.nsIn K cStatics "thirdparty.any") (some none) && (He.eqO (PySem.W.nsIn K mainGlobals "super") (some none) && PySem.W.keepIn K (.ref (He.fAd K d.at_)))))))))
theorem sup_of {P : Program} {K : PySem.W.Frag} {d : SupD} {st : Stmt} (hp : d.params = defArgs st) (hb : d.body = defBody st) (hs : d.scope = defScope st) (hf : P.main.file = d.file) (e : fnC K d.at_ = d.val) (c : supB K d = true) :
    ∃ fd, Sup P K d.qual st (He.fAd K d.at_) (He.ga K d.cls) (He.fAd K (d.oth, some "__init__")) fd := by
  obtain ⟨c1, c⟩ := He.ba c
  obtain ⟨c2, c⟩ := He.ba c
  obtain ⟨c3, c⟩ := He.ba c
  obtain ⟨c4, c⟩ := He.ba c
  obtain ⟨c5, c⟩ := He.ba c
  obtain ⟨c6, c⟩ := He.ba c
  obtain ⟨c7, c⟩ := He.ba c
  obtain ⟨c8, c9⟩ := He.ba c
  unfold supFn at c1
  unfold fnC at e
  cases q : K.lookup (He.fAd K d.at_) with
  | none => rw [q] at e; cases e
  | some o =>
    obtain ⟨oc, od, dt, osl⟩ := o
    rw [q] at e c1
    cases dt with
    | func fd =>
      obtain ⟨n1, n2, n3, n4, n5, n6, n7, n8, n9, n10, n11, n12, n13, n14, n15⟩ := fd
      have e2 : (some (n1, n2, n3, n4, n5, n6, n7.map (·.1), n15) : FnC) = d.val := e
      unfold SupD.val at e2
      simp only [Option.some.injEq, Prod.mk.injEq] at e2
      obtain ⟨h1, h2, h3, h4, h5, h6, h7, h8⟩ := e2
      obtain ⟨d1, d2⟩ := He.ba c1
      obtain ⟨d3, d4⟩ := He.ba d2
      obtain ⟨d5, d6⟩ := He.ba d4
      obtain ⟨x1, cc, k1, k2, k4, hl, hcc⟩ := cellB_ok d1
      obtain ⟨cda, f1, f2, vs, f4, f, tf, hcode, hcda, hv, hfile⟩ := fileB_ok d5
      have hd := noneB_ok d3
      dsimp only at hl hcode hd d6
      subst hl
      have hx : x1 = "__class__" := by simpa using h7
      subst hx h1 h2 h3 h4 h5 h6 h8 hcode hd
      obtain ⟨cd, hcd⟩ := Option.isSome_iff_exists.mp c2
      refine ⟨_, ⟨oc, od, osl, n9, n10, n11, n12, n14, cc, cda, f1, f2, vs, f4, f, tf, k1, k2, k4, rfl, ?_, d6, hcda, hv, by rw [hf]; exact hfile, hcc⟩, ⟨cd, hcd⟩, of_decide_eq_true c3, He.eqO_ok c4, of_decide_eq_true c5, c6, He.eqO_ok c7, He.eqO_ok c8, c9⟩
      rw [← hp, ← hb, ← hs]
      exact q
    | _ => cases e
/-! ### the Hook -/
abbrev AlU : Type := He.AlT × (Bool × List FnC)
def obsU (n : Nat) (fa : List He.Fa) (fn : List He.DefD) (ts : List He.Tab) (us : List SupD) (ex : PySem.W.Frag → Bool) (g : Addr → Option Obj) : AlU := (He.obsT fa fn ts (frU n g), (ex (frU n g) && us.all (supB (frU n g)), us.map fun d => fnC (frU n g) d.at_))
def valU (fn : List He.DefD) (ts : List He.Tab) (us : List SupD) (w : World) : AlU := (He.valT fn ts w, (true, us.map SupD.val))
structure SaysU (fa : List He.Fa) (fn : List He.DefD) (ts : List He.Tab) (us : List SupD) (ex : PySem.W.Frag → Bool) (w : World) (K : PySem.W.Frag) : Prop where
  t : He.SaysT fa fn ts w K
  more : ex K = true
  us : ∀ d ∈ us, supB K d = true ∧ fnC K d.at_ = d.val
theorem saysU_of {n : Nat} {fa : List He.Fa} {fn : List He.DefD} {ts : List He.Tab} {us : List SupD} {ex : PySem.W.Frag → Bool} {w : World} {g : Addr → Option Obj} (e : obsU n fa fn ts us ex g = valU fn ts us w) : SaysU fa fn ts us ex w (frU n g) := by
  have e1 : He.obsT fa fn ts (frU n g) = He.valT fn ts w := congrArg (fun z : AlU => z.1) e
  have e2 : (ex (frU n g) && us.all (supB (frU n g))) = true := congrArg (fun z : AlU => z.2.1) e
  have e3 : (us.map fun d => fnC (frU n g) d.at_) = us.map SupD.val := congrArg (fun z : AlU => z.2.2) e
  obtain ⟨a, b⟩ := He.ba e2
  refine ⟨e1, a, fun d hd => ⟨List.all_eq_true.mp b d hd, ?_⟩⟩
  exact List.map_inj_left.mp e3 d hd
def hookU (n : Nat) (fa : List He.Fa) (fn : List He.DefD) (ts : List He.Tab) (us : List SupD) (ex : PySem.W.Frag → Bool) : PySem.W.Hook where
  α := AlU
  obs := fun s => obsU n fa fn ts us ex s.heap.get?
  val := fun w => valU fn ts us w
  says := fun w h => ∃ K : PySem.W.Frag, K.In h ∧ SaysU fa fn ts us ex w K
  of := fun _ _ e => ⟨_, He.frT_in, saysU_of e⟩
  keeps := fun _ _ _ ⟨K, hK, c⟩ k => ⟨K, PySem.W.Frag.In.keeps hK k, c⟩
theorem obsU_eq {n : Nat} {fa : List He.Fa} {fn : List He.DefD} {ts : List He.Tab} {us : List SupD} {ex : PySem.W.Frag → Bool} {g : Addr → Option Obj} {s : Shared} (h : ∀ a, g a = s.heap.get? a) : obsU n fa fn ts us ex g = (hookU n fa fn ts us ex).obs s := by
  have e : g = s.heap.get? := funext h
  rw [e] <;> rfl
end Td
namespace K07
open PySem PySem.Spec PyProof.Rows L2 Td
def top (i : Nat) : Stmt := PySem.Challenge.pw_toldonward_k07_whole_runs_hang_on_their.main.body.getD i (.Pass ⟨0, 0, 0, 0⟩)
abbrev s_InvalidProgram_init : Stmt := inClass (top 3) 0
abbrev N_InvalidProgram_init : List Str := ["self", "part", "path"]
theorem sc_InvalidProgram_init : FnScope N_InvalidProgram_init ["self", "part", "path"] (defScope s_InvalidProgram_init) := ⟨rfl, rfl, rfl, by decide +kernel, rfl, by decide +kernel, by decide +kernel⟩
abbrev s_InvalidStart_init : Stmt := inClass (top 4) 0
abbrev N_InvalidStart_init : List Str := ["self", "words"]
theorem sc_InvalidStart_init : FnScope N_InvalidStart_init ["self", "words"] (defScope s_InvalidStart_init) := ⟨rfl, rfl, rfl, by decide +kernel, rfl, by decide +kernel, by decide +kernel⟩
abbrev s_UnknownCell_init : Stmt := inClass (top 5) 0
abbrev N_UnknownCell_init : List Str := ["self", "name"]
theorem sc_UnknownCell_init : FnScope N_UnknownCell_init ["self", "name"] (defScope s_UnknownCell_init) := ⟨rfl, rfl, rfl, by decide +kernel, rfl, by decide +kernel, by decide +kernel⟩
abbrev s_Record_init : Stmt := inClass (top 7) 0
abbrev N_Record_init : List Str := ["self"]
theorem sc_Record_init : FnScope N_Record_init ["self"] (defScope s_Record_init) := ⟨rfl, rfl, rfl, by decide +kernel, rfl, by decide +kernel, by decide +kernel⟩
abbrev s_Record_parts : Stmt := inClass (top 7) 1
abbrev N_Record_parts : List Str := ["self"]
theorem sc_Record_parts : FnScope N_Record_parts ["self"] (defScope s_Record_parts) := ⟨rfl, rfl, rfl, by decide +kernel, rfl, by decide +kernel, by decide +kernel⟩
abbrev s_TrueRun_init : Stmt := inClass (top 9) 0
abbrev N_TrueRun_init : List Str := ["self", "default", "known", "__class__"]
theorem sc_TrueRun_init : NdefX.NScope N_TrueRun_init ["self", "default", "known"] ["__class__"] (defScope s_TrueRun_init) := NdefX.nscope_by (by decide +kernel)
abbrev s_TrueRun_word_in : Stmt := inClass (top 9) 1
abbrev N_TrueRun_word_in : List Str := ["self", "slot"]
theorem sc_TrueRun_word_in : FnScope N_TrueRun_word_in ["self", "slot"] (defScope s_TrueRun_word_in) := ⟨rfl, rfl, rfl, by decide +kernel, rfl, by decide +kernel, by decide +kernel⟩
abbrev s_do_read : Stmt := top 10
abbrev N_do_read : List Str := ["run", "row", "word"]
theorem sc_do_read : FnScope N_do_read ["run", "row"] (defScope s_do_read) := ⟨rfl, rfl, rfl, by decide +kernel, rfl, by decide +kernel, by decide +kernel⟩
abbrev s_do_peek : Stmt := top 11
abbrev N_do_peek : List Str := ["run", "row", "word"]
theorem sc_do_peek : FnScope N_do_peek ["run", "row"] (defScope s_do_peek) := ⟨rfl, rfl, rfl, by decide +kernel, rfl, by decide +kernel, by decide +kernel⟩
abbrev s_do_put : Stmt := top 12
abbrev N_do_put : List Str := ["run", "row"]
theorem sc_do_put : FnScope N_do_put ["run", "row"] (defScope s_do_put) := ⟨rfl, rfl, rfl, by decide +kernel, rfl, by decide +kernel, by decide +kernel⟩
abbrev s_do_write : Stmt := top 13
abbrev N_do_write : List Str := ["run", "row"]
theorem sc_do_write : FnScope N_do_write ["run", "row"] (defScope s_do_write) := ⟨rfl, rfl, rfl, by decide +kernel, rfl, by decide +kernel, by decide +kernel⟩
abbrev s_do_say : Stmt := top 14
abbrev N_do_say : List Str := ["run", "row"]
theorem sc_do_say : FnScope N_do_say ["run", "row"] (defScope s_do_say) := ⟨rfl, rfl, rfl, by decide +kernel, rfl, by decide +kernel, by decide +kernel⟩
abbrev s_do_rows : Stmt := top 16
abbrev N_do_rows : List Str := ["run", "rows", "row", "chosen", "action"]
theorem sc_do_rows : FnScope N_do_rows ["run", "rows"] (defScope s_do_rows) := ⟨rfl, rfl, rfl, by decide +kernel, rfl, by decide +kernel, by decide +kernel⟩
abbrev s_run_truly : Stmt := top 17
abbrev N_run_truly : List Str := ["program", "known", "rows", "run"]
theorem sc_run_truly : FnScope N_run_truly ["program", "known", "rows"] (defScope s_run_truly) := ⟨rfl, rfl, rfl, by decide +kernel, rfl, by decide +kernel, by decide +kernel⟩
abbrev s_is_start : Stmt := top 18
abbrev N_is_start : List Str := ["program", "words", "word"]
theorem sc_is_start : FnScope N_is_start ["program", "words"] (defScope s_is_start) := ⟨rfl, rfl, rfl, by decide +kernel, rfl, by decide +kernel, by decide +kernel⟩
abbrev s_check_start : Stmt := top 19
abbrev N_check_start : List Str := ["program", "words"]
theorem sc_check_start : FnScope N_check_start ["program", "words"] (defScope s_check_start) := ⟨rfl, rfl, rfl, by decide +kernel, rfl, by decide +kernel, by decide +kernel⟩
abbrev s_known_words : Stmt := top 20
abbrev N_known_words : List Str := ["program", "words", "known", "name", "rows"]
theorem sc_known_words : FnScope N_known_words ["program", "words"] (defScope s_known_words) := ⟨rfl, rfl, rfl, by decide +kernel, rfl, by decide +kernel, by decide +kernel⟩
abbrev s_true_run : Stmt := top 21
abbrev N_true_run : List Str := ["program", "words", "name", "rows", "run"]
theorem sc_true_run : FnScope N_true_run ["program", "words", "name"] (defScope s_true_run) := ⟨rfl, rfl, rfl, by decide +kernel, rfl, by decide +kernel, by decide +kernel⟩
abbrev s_is_name : Stmt := top 24
abbrev N_is_name : List Str := ["value", "letter"]
theorem sc_is_name : FnScope N_is_name ["value"] (defScope s_is_name) := ⟨rfl, rfl, rfl, by decide +kernel, rfl, by decide +kernel, by decide +kernel⟩
abbrev s_are_names : Stmt := top 25
abbrev N_are_names : List Str := ["value", "least", "most", "item"]
theorem sc_are_names : FnScope N_are_names ["value", "least", "most"] (defScope s_are_names) := ⟨rfl, rfl, rfl, by decide +kernel, rfl, by decide +kernel, by decide +kernel⟩
abbrev s_are_named_pairs : Stmt := top 26
abbrev N_are_named_pairs : List Str := ["value", "most", "taken", "before", "pair"]
theorem sc_are_named_pairs : FnScope N_are_named_pairs ["value", "most", "taken"] (defScope s_are_named_pairs) := ⟨rfl, rfl, rfl, by decide +kernel, rfl, by decide +kernel, by decide +kernel⟩
abbrev s_Scope_init : Stmt := inClass (top 30) 0
abbrev N_Scope_init : List Str := ["self", "kind", "words", "sources", "readable"]
theorem sc_Scope_init : FnScope N_Scope_init ["self", "kind", "words", "sources", "readable"] (defScope s_Scope_init) := ⟨rfl, rfl, rfl, by decide +kernel, rfl, by decide +kernel, by decide +kernel⟩
abbrev s_is_read_row : Stmt := top 31
abbrev N_is_read_row : List Str := ["row", "scope"]
theorem sc_is_read_row : FnScope N_is_read_row ["row", "scope"] (defScope s_is_read_row) := ⟨rfl, rfl, rfl, by decide +kernel, rfl, by decide +kernel, by decide +kernel⟩
abbrev s_is_put_row : Stmt := top 32
abbrev N_is_put_row : List Str := ["row", "scope"]
theorem sc_is_put_row : FnScope N_is_put_row ["row", "scope"] (defScope s_is_put_row) := ⟨rfl, rfl, rfl, by decide +kernel, rfl, by decide +kernel, by decide +kernel⟩
abbrev s_is_if_row : Stmt := top 33
abbrev N_is_if_row : List Str := ["row", "scope"]
theorem sc_is_if_row : FnScope N_is_if_row ["row", "scope"] (defScope s_is_if_row) := ⟨rfl, rfl, rfl, by decide +kernel, rfl, by decide +kernel, by decide +kernel⟩
abbrev s_is_slot_row : Stmt := top 34
abbrev N_is_slot_row : List Str := ["row", "scope"]
theorem sc_is_slot_row : FnScope N_is_slot_row ["row", "scope"] (defScope s_is_slot_row) := ⟨rfl, rfl, rfl, by decide +kernel, rfl, by decide +kernel, by decide +kernel⟩
abbrev s_is_write_row : Stmt := top 35
abbrev N_is_write_row : List Str := ["row", "scope"]
theorem sc_is_write_row : FnScope N_is_write_row ["row", "scope"] (defScope s_is_write_row) := ⟨rfl, rfl, rfl, by decide +kernel, rfl, by decide +kernel, by decide +kernel⟩
abbrev s_check_of : Stmt := top 38
abbrev N_check_of : List Str := ["kind", "form"]
theorem sc_check_of : FnScope N_check_of ["kind", "form"] (defScope s_check_of) := ⟨rfl, rfl, rfl, by decide +kernel, rfl, by decide +kernel, by decide +kernel⟩
abbrev s_is_valid_row : Stmt := top 39
abbrev N_is_valid_row : List Str := ["row", "scope", "depth", "fits"]
theorem sc_is_valid_row : FnScope N_is_valid_row ["row", "scope", "depth"] (defScope s_is_valid_row) := ⟨rfl, rfl, rfl, by decide +kernel, rfl, by decide +kernel, by decide +kernel⟩
abbrev s_first_wrong_path : Stmt := top 40
abbrev N_first_wrong_path : List Str := ["rows", "scope", "base", "depth", "place", "row", "path", "branch", "wrong"]
theorem sc_first_wrong_path : FnScope N_first_wrong_path ["rows", "scope", "base", "depth"] (defScope s_first_wrong_path) := ⟨rfl, rfl, rfl, by decide +kernel, rfl, by decide +kernel, by decide +kernel⟩
abbrev s_paths_of_rows : Stmt := top 41
abbrev N_paths_of_rows : List Str := ["rows", "base", "paths", "place", "row", "path", "branch"]
theorem sc_paths_of_rows : FnScope N_paths_of_rows ["rows", "base"] (defScope s_paths_of_rows) := ⟨rfl, rfl, rfl, by decide +kernel, rfl, by decide +kernel, by decide +kernel⟩
abbrev s_Program_init : Stmt := inClass (top 49) 0
abbrev N_Program_init : List Str := ["self", "words", "sources", "derived", "effects"]
theorem sc_Program_init : FnScope N_Program_init ["self", "words", "sources", "derived", "effects"] (defScope s_Program_init) := ⟨rfl, rfl, rfl, by decide +kernel, rfl, by decide +kernel, by decide +kernel⟩
abbrev s_Program_eq : Stmt := inClass (top 49) 1
abbrev N_Program_eq : List Str := ["self", "other"]
theorem sc_Program_eq : FnScope N_Program_eq ["self", "other"] (defScope s_Program_eq) := ⟨rfl, rfl, rfl, by decide +kernel, rfl, by decide +kernel, by decide +kernel⟩
abbrev s_Program_cells : Stmt := inClass (top 49) 2
abbrev N_Program_cells : List Str := ["self"]
theorem sc_Program_cells : FnScope N_Program_cells ["self"] (defScope s_Program_cells) := ⟨rfl, rfl, rfl, by decide +kernel, rfl, by decide +kernel, by decide +kernel⟩
abbrev s_Program_derived_names : Stmt := inClass (top 49) 3
abbrev N_Program_derived_names : List Str := ["self"]
theorem sc_Program_derived_names : FnScope N_Program_derived_names ["self"] (defScope s_Program_derived_names) := ⟨rfl, rfl, rfl, by decide +kernel, rfl, by decide +kernel, by decide +kernel⟩
abbrev s_Program_effect_names : Stmt := inClass (top 49) 4
abbrev N_Program_effect_names : List Str := ["self"]
theorem sc_Program_effect_names : FnScope N_Program_effect_names ["self"] (defScope s_Program_effect_names) := ⟨rfl, rfl, rfl, by decide +kernel, rfl, by decide +kernel, by decide +kernel⟩
abbrev s_Program_body : Stmt := inClass (top 49) 5
abbrev N_Program_body : List Str := ["self", "name", "own_name", "rows"]
theorem sc_Program_body : FnScope N_Program_body ["self", "name"] (defScope s_Program_body) := ⟨rfl, rfl, rfl, by decide +kernel, rfl, by decide +kernel, by decide +kernel⟩
abbrev s_Program_row_paths : Stmt := inClass (top 49) 6
abbrev N_Program_row_paths : List Str := ["self"]
theorem sc_Program_row_paths : FnScope N_Program_row_paths ["self"] (defScope s_Program_row_paths) := ⟨rfl, rfl, rfl, by decide +kernel, rfl, by decide +kernel, by decide +kernel⟩
abbrev s_Program_row_at : Stmt := inClass (top 49) 7
abbrev N_Program_row_at : List Str := ["self", "path"]
theorem sc_Program_row_at : FnScope N_Program_row_at ["self", "path"] (defScope s_Program_row_at) := ⟨rfl, rfl, rfl, by decide +kernel, rfl, by decide +kernel, by decide +kernel⟩
abbrev s_Program_with_row : Stmt := inClass (top 49) 8
abbrev N_Program_with_row : List Str := ["self", "path", "row"]
theorem sc_Program_with_row : FnScope N_Program_with_row ["self", "path", "row"] (defScope s_Program_with_row) := ⟨rfl, rfl, rfl, by decide +kernel, rfl, by decide +kernel, by decide +kernel⟩
abbrev s_names_of : Stmt := top 50
abbrev N_names_of : List Str := ["pairs", "name", "_"]
theorem sc_names_of : FnScope N_names_of ["pairs"] (defScope s_names_of) := ⟨rfl, rfl, rfl, by decide +kernel, rfl, by decide +kernel, by decide +kernel⟩
abbrev s_check_parts : Stmt := top 51
abbrev N_check_parts : List Str := ["words", "sources", "derived", "effects"]
theorem sc_check_parts : FnScope N_check_parts ["words", "sources", "derived", "effects"] (defScope s_check_parts) := ⟨rfl, rfl, rfl, by decide +kernel, rfl, by decide +kernel, by decide +kernel⟩
abbrev s_check_bodies : Stmt := top 52
abbrev N_check_bodies : List Str := ["words", "sources", "derived", "effects", "readable", "index", "name", "rows", "_"]
theorem sc_check_bodies : FnScope N_check_bodies ["words", "sources", "derived", "effects"] (defScope s_check_bodies) := ⟨rfl, rfl, rfl, by decide +kernel, rfl, by decide +kernel, by decide +kernel⟩
abbrev s_check_body : Stmt := top 53
abbrev N_check_body : List Str := ["rows", "scope", "index", "base", "wrong"]
theorem sc_check_body : FnScope N_check_body ["rows", "scope", "index"] (defScope s_check_body) := ⟨rfl, rfl, rfl, by decide +kernel, rfl, by decide +kernel, by decide +kernel⟩
abbrev s_law_state : Stmt := top 55
abbrev N_law_state : List Str := ["_law_script"]
theorem sc_law_state : FnScope N_law_state ["_law_script"] (defScope s_law_state) := ⟨rfl, rfl, rfl, by decide +kernel, rfl, by decide +kernel, by decide +kernel⟩
abbrev s_law_draw : Stmt := top 56
abbrev N_law_draw : List Str := ["_law_state_here", "_law_many_here", "_law_cell", "_law_digit", "_law_one", "_law_two", "_law_three"]
theorem sc_law_draw : FnScope N_law_draw ["_law_state_here", "_law_many_here"] (defScope s_law_draw) := ⟨rfl, rfl, rfl, by decide +kernel, rfl, by decide +kernel, by decide +kernel⟩
abbrev s_law_names : Stmt := top 57
abbrev N_law_names : List Str := ["_law_state_here", "_law_many_here", "_law_place", "_law_first", "_law_shared", "_law_base", "_law_letters", "_law_names_here", "_law_k", "_law_other", "_law_size", "_law_name", "_law_at"]
theorem sc_law_names : FnScope N_law_names ["_law_state_here", "_law_many_here"] (defScope s_law_names) := ⟨rfl, rfl, rfl, by decide +kernel, rfl, by decide +kernel, by decide +kernel⟩
abbrev s_law_many : Stmt := top 58
abbrev N_law_many : List Str := ["_law_rows_here", "_law_total", "_law_row_here"]
theorem sc_law_many : FnScope N_law_many ["_law_rows_here"] (defScope s_law_many) := ⟨rfl, rfl, rfl, by decide +kernel, rfl, by decide +kernel, by decide +kernel⟩
abbrev s_law_row : Stmt := top 59
abbrev N_law_row : List Str := ["_law_state_here", "_law_shape", "_law_kind", "_law_slot", "_law_cell"]
theorem sc_law_row : FnScope N_law_row ["_law_state_here", "_law_shape"] (defScope s_law_row) := ⟨rfl, rfl, rfl, by decide +kernel, rfl, by decide +kernel, by decide +kernel⟩
abbrev s_law_rows : Stmt := top 60
abbrev N_law_rows : List Str := ["_law_state_here", "_law_shape", "_law_depth", "_law_room", "_law_rows_here", "_law_left", "_law_turn", "_law_slot", "_law_cell", "_law_word", "_law_yes", "_law_no"]
theorem sc_law_rows : FnScope N_law_rows ["_law_state_here", "_law_shape", "_law_depth", "_law_room"] (defScope s_law_rows) := ⟨rfl, rfl, rfl, by decide +kernel, rfl, by decide +kernel, by decide +kernel⟩
abbrev s_law_parts : Stmt := top 61
abbrev N_law_parts : List Str := ["_law_state_here", "_law_sizes", "_law_peeks", "_law_writes", "_law_many_words", "_law_many_sources", "_law_many_derived", "_law_many_effects", "_law_words_here", "_law_names_here", "_law_slots", "_law_sources", "_law_shape", "_law_derived", "_law_k", "_law_name", "_law_rows_here", "_law_effects"]
theorem sc_law_parts : FnScope N_law_parts ["_law_state_here", "_law_sizes", "_law_peeks", "_law_writes"] (defScope s_law_parts) := ⟨rfl, rfl, rfl, by decide +kernel, rfl, by decide +kernel, by decide +kernel⟩
abbrev s_law_words : Stmt := top 62
abbrev N_law_words : List Str := ["_law_state_here", "_law_parts_here", "_law_source"]
theorem sc_law_words : FnScope N_law_words ["_law_state_here", "_law_parts_here"] (defScope s_law_words) := ⟨rfl, rfl, rfl, by decide +kernel, rfl, by decide +kernel, by decide +kernel⟩
abbrev s_law_true_rows : Stmt := top 63
abbrev N_law_true_rows : List Str := ["_law_rows_here", "_law_slots", "_law_told", "_law_default", "_law_record", "_law_row_here", "_law_pairs", "_law_inside", "_law_word", "_law_pair"]
theorem sc_law_true_rows : FnScope N_law_true_rows ["_law_rows_here", "_law_slots", "_law_told", "_law_default", "_law_record"] (defScope s_law_true_rows) := ⟨rfl, rfl, rfl, by decide +kernel, rfl, by decide +kernel, by decide +kernel⟩
abbrev s_law_true : Stmt := top 64
abbrev N_law_true : List Str := ["_law_parts_here", "_law_words_here", "_law_told", "_law_k", "_law_pair", "_law_record", "_law_word"]
theorem sc_law_true : FnScope N_law_true ["_law_parts_here", "_law_words_here"] (defScope s_law_true) := ⟨rfl, rfl, rfl, by decide +kernel, rfl, by decide +kernel, by decide +kernel⟩
abbrev s_law_same : Stmt := top 65
abbrev N_law_same : List Str := ["_law_answer", "_law_told", "_law_pair"]
theorem sc_law_same : FnScope N_law_same ["_law_answer", "_law_told"] (defScope s_law_same) := ⟨rfl, rfl, rfl, by decide +kernel, rfl, by decide +kernel, by decide +kernel⟩
abbrev s_law : Stmt := top 66
abbrev N_law : List Str := ["_law_script", "_law_state_here", "_law_parts_here", "_law_first", "_law_second", "_law_k", "_law_program", "_law_here", "_law_there", "_law_pair", "_law_one", "_law_two"]
theorem sc_law : FnScope N_law ["_law_script"] (defScope s_law) := ⟨rfl, rfl, rfl, by decide +kernel, rfl, by decide +kernel, by decide +kernel⟩
/-- what stands behind the top -/
structure Tops (w : World) (K : PySem.W.Frag) (mg : Str → Option Value) where
  z_isinstance : mg "isinstance" = none
  z_str : mg "str" = none
  z_tuple : mg "tuple" = none
  z_list : mg "list" = none
  z_len : mg "len" = none
  z_all : mg "all" = none
  z_set : mg "set" = none
  z_enumerate : mg "enumerate" = none
  z_range : mg "range" = none
  z_abs : mg "abs" = none
  z_int : mg "int" = none
  z_max : mg "max" = none
  z_dict : mg "dict" = none
  z_zip : mg "zip" = none
  u_LONGEST_NAME : Tok
  c_LONGEST_NAME : mg "LONGEST_NAME" = some (.int 8 u_LONGEST_NAME)
  u_MOST_ROWS : Tok
  c_MOST_ROWS : mg "MOST_ROWS" = some (.int 16 u_MOST_ROWS)
  u_DEEPEST_IF : Tok
  c_DEEPEST_IF : mg "DEEPEST_IF" = some (.int 3 u_DEEPEST_IF)
  u_LEAST_WORDS : Tok
  c_LEAST_WORDS : mg "LEAST_WORDS" = some (.int 2 u_LEAST_WORDS)
  u_MOST_WORDS : Tok
  c_MOST_WORDS : mg "MOST_WORDS" = some (.int 4 u_MOST_WORDS)
  u_LEAST_SOURCES : Tok
  c_LEAST_SOURCES : mg "LEAST_SOURCES" = some (.int 1 u_LEAST_SOURCES)
  u_MOST_SOURCES : Tok
  c_MOST_SOURCES : mg "MOST_SOURCES" = some (.int 4 u_MOST_SOURCES)
  u_MOST_DERIVED : Tok
  c_MOST_DERIVED : mg "MOST_DERIVED" = some (.int 6 u_MOST_DERIVED)
  u_MOST_EFFECTS : Tok
  c_MOST_EFFECTS : mg "MOST_EFFECTS" = some (.int 4 u_MOST_EFFECTS)
  a_InvalidProgram_init : Addr
  d_InvalidProgram_init : FuncData
  F_InvalidProgram_init : Fun K "__init__" "InvalidProgram.__init__" s_InvalidProgram_init a_InvalidProgram_init d_InvalidProgram_init
  b_InvalidProgram_init : Binds K d_InvalidProgram_init ["self", "part", "path"] []
  a_InvalidStart_init : Addr
  d_InvalidStart_init : FuncData
  F_InvalidStart_init : Fun K "__init__" "InvalidStart.__init__" s_InvalidStart_init a_InvalidStart_init d_InvalidStart_init
  b_InvalidStart_init : Binds K d_InvalidStart_init ["self", "words"] []
  a_UnknownCell_init : Addr
  d_UnknownCell_init : FuncData
  F_UnknownCell_init : Fun K "__init__" "UnknownCell.__init__" s_UnknownCell_init a_UnknownCell_init d_UnknownCell_init
  b_UnknownCell_init : Binds K d_UnknownCell_init ["self", "name"] []
  a_Record_init : Addr
  d_Record_init : FuncData
  F_Record_init : Fun K "__init__" "Record.__init__" s_Record_init a_Record_init d_Record_init
  b_Record_init : Binds K d_Record_init ["self"] []
  a_Record_parts : Addr
  d_Record_parts : FuncData
  F_Record_parts : Fun K "parts" "Record.parts" s_Record_parts a_Record_parts d_Record_parts
  b_Record_parts : Binds K d_Record_parts ["self"] []
  a_TrueRun_init : Addr
  d_TrueRun_init : FuncData
  a_TrueRun_word_in : Addr
  d_TrueRun_word_in : FuncData
  F_TrueRun_word_in : Fun K "word_in" "TrueRun.word_in" s_TrueRun_word_in a_TrueRun_word_in d_TrueRun_word_in
  b_TrueRun_word_in : Binds K d_TrueRun_word_in ["self", "slot"] []
  a_do_read : Addr
  d_do_read : FuncData
  F_do_read : Fun K "do_read" "do_read" s_do_read a_do_read d_do_read
  b_do_read : Binds K d_do_read ["run", "row"] []
  m_do_read : mg "do_read" = some (.ref a_do_read)
  a_do_peek : Addr
  d_do_peek : FuncData
  F_do_peek : Fun K "do_peek" "do_peek" s_do_peek a_do_peek d_do_peek
  b_do_peek : Binds K d_do_peek ["run", "row"] []
  m_do_peek : mg "do_peek" = some (.ref a_do_peek)
  a_do_put : Addr
  d_do_put : FuncData
  F_do_put : Fun K "do_put" "do_put" s_do_put a_do_put d_do_put
  b_do_put : Binds K d_do_put ["run", "row"] []
  m_do_put : mg "do_put" = some (.ref a_do_put)
  a_do_write : Addr
  d_do_write : FuncData
  F_do_write : Fun K "do_write" "do_write" s_do_write a_do_write d_do_write
  b_do_write : Binds K d_do_write ["run", "row"] []
  m_do_write : mg "do_write" = some (.ref a_do_write)
  a_do_say : Addr
  d_do_say : FuncData
  F_do_say : Fun K "do_say" "do_say" s_do_say a_do_say d_do_say
  b_do_say : Binds K d_do_say ["run", "row"] []
  m_do_say : mg "do_say" = some (.ref a_do_say)
  a_do_rows : Addr
  d_do_rows : FuncData
  F_do_rows : Fun K "do_rows" "do_rows" s_do_rows a_do_rows d_do_rows
  b_do_rows : Binds K d_do_rows ["run", "rows"] []
  m_do_rows : mg "do_rows" = some (.ref a_do_rows)
  a_run_truly : Addr
  d_run_truly : FuncData
  F_run_truly : Fun K "run_truly" "run_truly" s_run_truly a_run_truly d_run_truly
  b_run_truly : Binds K d_run_truly ["program", "known", "rows"] []
  m_run_truly : mg "run_truly" = some (.ref a_run_truly)
  a_is_start : Addr
  d_is_start : FuncData
  F_is_start : Fun K "is_start" "is_start" s_is_start a_is_start d_is_start
  b_is_start : Binds K d_is_start ["program", "words"] []
  m_is_start : mg "is_start" = some (.ref a_is_start)
  a_check_start : Addr
  d_check_start : FuncData
  F_check_start : Fun K "check_start" "check_start" s_check_start a_check_start d_check_start
  b_check_start : Binds K d_check_start ["program", "words"] []
  m_check_start : mg "check_start" = some (.ref a_check_start)
  a_known_words : Addr
  d_known_words : FuncData
  F_known_words : Fun K "known_words" "known_words" s_known_words a_known_words d_known_words
  b_known_words : Binds K d_known_words ["program", "words"] []
  m_known_words : mg "known_words" = some (.ref a_known_words)
  a_true_run : Addr
  d_true_run : FuncData
  F_true_run : Fun K "true_run" "true_run" s_true_run a_true_run d_true_run
  b_true_run : Binds K d_true_run ["program", "words", "name"] []
  m_true_run : mg "true_run" = some (.ref a_true_run)
  a_is_name : Addr
  d_is_name : FuncData
  F_is_name : Fun K "is_name" "is_name" s_is_name a_is_name d_is_name
  b_is_name : Binds K d_is_name ["value"] []
  m_is_name : mg "is_name" = some (.ref a_is_name)
  a_are_names : Addr
  d_are_names : FuncData
  F_are_names : Fun K "are_names" "are_names" s_are_names a_are_names d_are_names
  b_are_names : Binds K d_are_names ["value", "least", "most"] []
  m_are_names : mg "are_names" = some (.ref a_are_names)
  a_are_named_pairs : Addr
  d_are_named_pairs : FuncData
  F_are_named_pairs : Fun K "are_named_pairs" "are_named_pairs" s_are_named_pairs a_are_named_pairs d_are_named_pairs
  b_are_named_pairs : Binds K d_are_named_pairs ["value", "most", "taken"] []
  m_are_named_pairs : mg "are_named_pairs" = some (.ref a_are_named_pairs)
  a_Scope_init : Addr
  d_Scope_init : FuncData
  F_Scope_init : Fun K "__init__" "Scope.__init__" s_Scope_init a_Scope_init d_Scope_init
  b_Scope_init : Binds K d_Scope_init ["self", "kind", "words", "sources", "readable"] []
  a_is_read_row : Addr
  d_is_read_row : FuncData
  F_is_read_row : Fun K "is_read_row" "is_read_row" s_is_read_row a_is_read_row d_is_read_row
  b_is_read_row : Binds K d_is_read_row ["row", "scope"] []
  m_is_read_row : mg "is_read_row" = some (.ref a_is_read_row)
  a_is_put_row : Addr
  d_is_put_row : FuncData
  F_is_put_row : Fun K "is_put_row" "is_put_row" s_is_put_row a_is_put_row d_is_put_row
  b_is_put_row : Binds K d_is_put_row ["row", "scope"] []
  m_is_put_row : mg "is_put_row" = some (.ref a_is_put_row)
  a_is_if_row : Addr
  d_is_if_row : FuncData
  F_is_if_row : Fun K "is_if_row" "is_if_row" s_is_if_row a_is_if_row d_is_if_row
  b_is_if_row : Binds K d_is_if_row ["row", "scope"] []
  m_is_if_row : mg "is_if_row" = some (.ref a_is_if_row)
  a_is_slot_row : Addr
  d_is_slot_row : FuncData
  F_is_slot_row : Fun K "is_slot_row" "is_slot_row" s_is_slot_row a_is_slot_row d_is_slot_row
  b_is_slot_row : Binds K d_is_slot_row ["row", "scope"] []
  m_is_slot_row : mg "is_slot_row" = some (.ref a_is_slot_row)
  a_is_write_row : Addr
  d_is_write_row : FuncData
  F_is_write_row : Fun K "is_write_row" "is_write_row" s_is_write_row a_is_write_row d_is_write_row
  b_is_write_row : Binds K d_is_write_row ["row", "scope"] []
  m_is_write_row : mg "is_write_row" = some (.ref a_is_write_row)
  a_check_of : Addr
  d_check_of : FuncData
  F_check_of : Fun K "check_of" "check_of" s_check_of a_check_of d_check_of
  b_check_of : Binds K d_check_of ["kind", "form"] []
  m_check_of : mg "check_of" = some (.ref a_check_of)
  a_is_valid_row : Addr
  d_is_valid_row : FuncData
  F_is_valid_row : Fun K "is_valid_row" "is_valid_row" s_is_valid_row a_is_valid_row d_is_valid_row
  b_is_valid_row : Binds K d_is_valid_row ["row", "scope", "depth"] []
  m_is_valid_row : mg "is_valid_row" = some (.ref a_is_valid_row)
  a_first_wrong_path : Addr
  d_first_wrong_path : FuncData
  F_first_wrong_path : Fun K "first_wrong_path" "first_wrong_path" s_first_wrong_path a_first_wrong_path d_first_wrong_path
  b_first_wrong_path : Binds K d_first_wrong_path ["rows", "scope", "base", "depth"] []
  m_first_wrong_path : mg "first_wrong_path" = some (.ref a_first_wrong_path)
  a_paths_of_rows : Addr
  d_paths_of_rows : FuncData
  F_paths_of_rows : Fun K "paths_of_rows" "paths_of_rows" s_paths_of_rows a_paths_of_rows d_paths_of_rows
  b_paths_of_rows : Binds K d_paths_of_rows ["rows", "base"] []
  m_paths_of_rows : mg "paths_of_rows" = some (.ref a_paths_of_rows)
  a_Program_init : Addr
  d_Program_init : FuncData
  F_Program_init : Fun K "__init__" "Program.__init__" s_Program_init a_Program_init d_Program_init
  b_Program_init : Binds K d_Program_init ["self", "words", "sources", "derived", "effects"] []
  a_Program_eq : Addr
  d_Program_eq : FuncData
  F_Program_eq : Fun K "__eq__" "Program.__eq__" s_Program_eq a_Program_eq d_Program_eq
  b_Program_eq : Binds K d_Program_eq ["self", "other"] []
  a_Program_cells : Addr
  d_Program_cells : FuncData
  F_Program_cells : Fun K "cells" "Program.cells" s_Program_cells a_Program_cells d_Program_cells
  b_Program_cells : Binds K d_Program_cells ["self"] []
  a_Program_derived_names : Addr
  d_Program_derived_names : FuncData
  F_Program_derived_names : Fun K "derived_names" "Program.derived_names" s_Program_derived_names a_Program_derived_names d_Program_derived_names
  b_Program_derived_names : Binds K d_Program_derived_names ["self"] []
  a_Program_effect_names : Addr
  d_Program_effect_names : FuncData
  F_Program_effect_names : Fun K "effect_names" "Program.effect_names" s_Program_effect_names a_Program_effect_names d_Program_effect_names
  b_Program_effect_names : Binds K d_Program_effect_names ["self"] []
  a_Program_body : Addr
  d_Program_body : FuncData
  F_Program_body : Fun K "body" "Program.body" s_Program_body a_Program_body d_Program_body
  b_Program_body : Binds K d_Program_body ["self", "name"] []
  a_Program_row_paths : Addr
  d_Program_row_paths : FuncData
  F_Program_row_paths : Fun K "row_paths" "Program.row_paths" s_Program_row_paths a_Program_row_paths d_Program_row_paths
  b_Program_row_paths : Binds K d_Program_row_paths ["self"] []
  a_Program_row_at : Addr
  d_Program_row_at : FuncData
  F_Program_row_at : Fun K "row_at" "Program.row_at" s_Program_row_at a_Program_row_at d_Program_row_at
  b_Program_row_at : Binds K d_Program_row_at ["self", "path"] []
  a_Program_with_row : Addr
  d_Program_with_row : FuncData
  F_Program_with_row : Fun K "with_row" "Program.with_row" s_Program_with_row a_Program_with_row d_Program_with_row
  b_Program_with_row : Binds K d_Program_with_row ["self", "path", "row"] []
  a_names_of : Addr
  d_names_of : FuncData
  F_names_of : Fun K "names_of" "names_of" s_names_of a_names_of d_names_of
  b_names_of : Binds K d_names_of ["pairs"] []
  m_names_of : mg "names_of" = some (.ref a_names_of)
  a_check_parts : Addr
  d_check_parts : FuncData
  F_check_parts : Fun K "check_parts" "check_parts" s_check_parts a_check_parts d_check_parts
  b_check_parts : Binds K d_check_parts ["words", "sources", "derived", "effects"] []
  m_check_parts : mg "check_parts" = some (.ref a_check_parts)
  a_check_bodies : Addr
  d_check_bodies : FuncData
  F_check_bodies : Fun K "check_bodies" "check_bodies" s_check_bodies a_check_bodies d_check_bodies
  b_check_bodies : Binds K d_check_bodies ["words", "sources", "derived", "effects"] []
  m_check_bodies : mg "check_bodies" = some (.ref a_check_bodies)
  a_check_body : Addr
  d_check_body : FuncData
  F_check_body : Fun K "check_body" "check_body" s_check_body a_check_body d_check_body
  b_check_body : Binds K d_check_body ["rows", "scope", "index"] []
  m_check_body : mg "check_body" = some (.ref a_check_body)
  a__law_state : Addr
  d__law_state : FuncData
  F__law_state : Fun K "_law_state" "_law_state" s_law_state a__law_state d__law_state
  b__law_state : Binds K d__law_state ["_law_script"] []
  m__law_state : mg "_law_state" = some (.ref a__law_state)
  a__law_draw : Addr
  d__law_draw : FuncData
  F__law_draw : Fun K "_law_draw" "_law_draw" s_law_draw a__law_draw d__law_draw
  b__law_draw : Binds K d__law_draw ["_law_state_here", "_law_many_here"] []
  m__law_draw : mg "_law_draw" = some (.ref a__law_draw)
  a__law_names : Addr
  d__law_names : FuncData
  F__law_names : Fun K "_law_names" "_law_names" s_law_names a__law_names d__law_names
  b__law_names : Binds K d__law_names ["_law_state_here", "_law_many_here"] []
  m__law_names : mg "_law_names" = some (.ref a__law_names)
  a__law_many : Addr
  d__law_many : FuncData
  F__law_many : Fun K "_law_many" "_law_many" s_law_many a__law_many d__law_many
  b__law_many : Binds K d__law_many ["_law_rows_here"] []
  m__law_many : mg "_law_many" = some (.ref a__law_many)
  a__law_row : Addr
  d__law_row : FuncData
  F__law_row : Fun K "_law_row" "_law_row" s_law_row a__law_row d__law_row
  b__law_row : Binds K d__law_row ["_law_state_here", "_law_shape"] []
  m__law_row : mg "_law_row" = some (.ref a__law_row)
  a__law_rows : Addr
  d__law_rows : FuncData
  F__law_rows : Fun K "_law_rows" "_law_rows" s_law_rows a__law_rows d__law_rows
  b__law_rows : Binds K d__law_rows ["_law_state_here", "_law_shape", "_law_depth", "_law_room"] []
  m__law_rows : mg "_law_rows" = some (.ref a__law_rows)
  a__law_parts : Addr
  d__law_parts : FuncData
  F__law_parts : Fun K "_law_parts" "_law_parts" s_law_parts a__law_parts d__law_parts
  b__law_parts : Binds K d__law_parts ["_law_state_here", "_law_sizes", "_law_peeks", "_law_writes"] []
  m__law_parts : mg "_law_parts" = some (.ref a__law_parts)
  a__law_words : Addr
  d__law_words : FuncData
  F__law_words : Fun K "_law_words" "_law_words" s_law_words a__law_words d__law_words
  b__law_words : Binds K d__law_words ["_law_state_here", "_law_parts_here"] []
  m__law_words : mg "_law_words" = some (.ref a__law_words)
  a__law_true_rows : Addr
  d__law_true_rows : FuncData
  F__law_true_rows : Fun K "_law_true_rows" "_law_true_rows" s_law_true_rows a__law_true_rows d__law_true_rows
  b__law_true_rows : Binds K d__law_true_rows ["_law_rows_here", "_law_slots", "_law_told", "_law_default", "_law_record"] []
  m__law_true_rows : mg "_law_true_rows" = some (.ref a__law_true_rows)
  a__law_true : Addr
  d__law_true : FuncData
  F__law_true : Fun K "_law_true" "_law_true" s_law_true a__law_true d__law_true
  b__law_true : Binds K d__law_true ["_law_parts_here", "_law_words_here"] []
  m__law_true : mg "_law_true" = some (.ref a__law_true)
  a__law_same : Addr
  d__law_same : FuncData
  F__law_same : Fun K "_law_same" "_law_same" s_law_same a__law_same d__law_same
  b__law_same : Binds K d__law_same ["_law_answer", "_law_told"] []
  m__law_same : mg "_law_same" = some (.ref a__law_same)
  a_law : Addr
  d_law : FuncData
  F_law : Fun K "law" "law" s_law a_law d_law
  b_law : Binds K d_law ["_law_script"] []
  m_law : mg "law" = some (.ref a_law)
  c_ToldError : Addr
  m_ToldError : mg "ToldError" = some (.ref c_ToldError)
  c_InvalidProgram : Addr
  m_InvalidProgram : mg "InvalidProgram" = some (.ref c_InvalidProgram)
  c_InvalidStart : Addr
  m_InvalidStart : mg "InvalidStart" = some (.ref c_InvalidStart)
  c_UnknownCell : Addr
  m_UnknownCell : mg "UnknownCell" = some (.ref c_UnknownCell)
  c_Record : Addr
  m_Record : mg "Record" = some (.ref c_Record)
  c_TrueRun : Addr
  m_TrueRun : mg "TrueRun" = some (.ref c_TrueRun)
  l_TrueRun : Cls K c_TrueRun
  k_TrueRun : Mk K c_TrueRun a_TrueRun_init
  n_TrueRun_default : NoAttr K c_TrueRun "default"
  n_TrueRun_known : NoAttr K c_TrueRun "known"
  n_TrueRun_slots : NoAttr K c_TrueRun "slots"
  n_TrueRun_noted : NoAttr K c_TrueRun "noted"
  n_TrueRun_peeked : NoAttr K c_TrueRun "peeked"
  n_TrueRun_said : NoAttr K c_TrueRun "said"
  n_TrueRun_written : NoAttr K c_TrueRun "written"
  n_TrueRun_given : NoAttr K c_TrueRun "given"
  t_TrueRun_word_in : Meth K c_TrueRun "word_in" a_TrueRun_word_in
  c_Scope : Addr
  m_Scope : mg "Scope" = some (.ref c_Scope)
  l_Scope : Cls K c_Scope
  k_Scope : Mk K c_Scope a_Scope_init
  n_Scope_kind : NoAttr K c_Scope "kind"
  n_Scope_words : NoAttr K c_Scope "words"
  n_Scope_sources : NoAttr K c_Scope "sources"
  n_Scope_readable : NoAttr K c_Scope "readable"
  c_Program : Addr
  m_Program : mg "Program" = some (.ref c_Program)
  l_Program : Cls K c_Program
  k_Program : Mk K c_Program a_Program_init
  n_Program_words : NoAttr K c_Program "words"
  n_Program_sources : NoAttr K c_Program "sources"
  n_Program_derived : NoAttr K c_Program "derived"
  n_Program_effects : NoAttr K c_Program "effects"
  n_Program__derived_names : NoAttr K c_Program "_derived_names"
  n_Program__effect_names : NoAttr K c_Program "_effect_names"
  t_Program_cells : Meth K c_Program "cells" a_Program_cells
  t_Program_derived_names : Meth K c_Program "derived_names" a_Program_derived_names
  t_Program_effect_names : Meth K c_Program "effect_names" a_Program_effect_names
  t_Program_body : Meth K c_Program "body" a_Program_body
  t_Program_row_paths : Meth K c_Program "row_paths" a_Program_row_paths
  t_Program_row_at : Meth K c_Program "row_at" a_Program_row_at
  t_Program_with_row : Meth K c_Program "with_row" a_Program_with_row
  F_TrueRun_init : Sup PySem.Challenge.pw_toldonward_k07_whole_runs_hang_on_their K "TrueRun.__init__" s_TrueRun_init a_TrueRun_init c_TrueRun a_Record_init d_TrueRun_init
  b_TrueRun_init : Binds K d_TrueRun_init ["self", "default", "known"] []
  t_TrueRun_parts : Meth K c_TrueRun "parts" a_Record_parts
  a_DERIVED_FORMS : Addr
  c_DERIVED_FORMS : mg "DERIVED_FORMS" = some (.ref a_DERIVED_FORMS)
  w_DERIVED_FORMS : KTab K w a_DERIVED_FORMS
  w_DERIVED_FORMS_read : KDct K w a_DERIVED_FORMS "read" (.ref a_is_read_row)
  w_DERIVED_FORMS_put : KDct K w a_DERIVED_FORMS "put" (.ref a_is_put_row)
  w_DERIVED_FORMS_if : KDct K w a_DERIVED_FORMS "if" (.ref a_is_if_row)
  w_DERIVED_FORMS_give : KDct K w a_DERIVED_FORMS "give" (.ref a_is_slot_row)
  a_EFFECT_FORMS : Addr
  c_EFFECT_FORMS : mg "EFFECT_FORMS" = some (.ref a_EFFECT_FORMS)
  w_EFFECT_FORMS : KTab K w a_EFFECT_FORMS
  w_EFFECT_FORMS_read : KDct K w a_EFFECT_FORMS "read" (.ref a_is_read_row)
  w_EFFECT_FORMS_peek : KDct K w a_EFFECT_FORMS "peek" (.ref a_is_read_row)
  w_EFFECT_FORMS_put : KDct K w a_EFFECT_FORMS "put" (.ref a_is_put_row)
  w_EFFECT_FORMS_if : KDct K w a_EFFECT_FORMS "if" (.ref a_is_if_row)
  w_EFFECT_FORMS_write : KDct K w a_EFFECT_FORMS "write" (.ref a_is_write_row)
  w_EFFECT_FORMS_say : KDct K w a_EFFECT_FORMS "say" (.ref a_is_slot_row)
  a_ACTIONS : Addr
  c_ACTIONS : mg "ACTIONS" = some (.ref a_ACTIONS)
  w_ACTIONS : KTab K w a_ACTIONS
  w_ACTIONS_read : KDct K w a_ACTIONS "read" (.ref a_do_read)
  w_ACTIONS_peek : KDct K w a_ACTIONS "peek" (.ref a_do_peek)
  w_ACTIONS_put : KDct K w a_ACTIONS "put" (.ref a_do_put)
  w_ACTIONS_write : KDct K w a_ACTIONS "write" (.ref a_do_write)
  w_ACTIONS_say : KDct K w a_ACTIONS "say" (.ref a_do_say)
end K07
namespace K07
open PySem PySem.Spec PyProof.Rows L2 Td
/-- the state of the draws at st -/
def stL (sc : Addr) (i d c s : Int) : List V := [.ref sc, .int i, .int d, .int c, .int s]
def StOk (H : Hp) (st sc : Addr) : Prop := ∃ (cs : List Int) (i d c s : Int),
  H st = some (.lst (stL sc i d c s)) ∧ H sc = some (.lst (cs.map V.int)) ∧ 0 ≤ d ∧ 0 ≤ i ∧ i ≤ cs.length ∧ cs.length ≤ 63 ∧ sc ≠ st
def spDraw : Sp := fun vs H Q _ => ∃ (st sc : Addr) (m : Int), vs = [.ref st, .int m] ∧ 0 < m ∧ m < 2 ^ 64 ∧ StOk H st sc ∧
  ∀ (r : Int) (H' : Hp), 0 ≤ r → r < m → Keep st H H' → StOk H' st sc → (∃ L, H' = upd H st (.lst L)) → Q (.int r) H'
def spState (K : PySem.W.Frag) : Sp := fun vs H Q _ => ∃ (a : Addr) (ns : List Int), vs = [.ref a] ∧ SqL K H a (ns.map V.int) ∧ ns.length ≤ 63 ∧
  ∀ (st sc : Addr) (H' : Hp), Same H H' → H st = none → H sc = none → StOk H' st sc → Q (.ref st) H'
section
variable {P : Program} {w : World} {K : PySem.W.Frag} {mg : Str → Option Value} {base : Heap}
theorem ok_draw (T : Tops w K mg) : FnOk P w K mg base CX0 1 T.a__law_draw T.d__law_draw ["_law_state_here", "_law_many_here"] spDraw := by
  refine T.F__law_draw.ok sc_law_draw (fun vs H Q E h => ?_) (fun cdv A outer s H vs Q E hr h => ?_)
  · obtain ⟨st, sc, m, rfl, _⟩ := h
    rfl
  obtain ⟨st, sc, m, rfl, hm0, hm1, ⟨cs, i, d, c, z, h1, h2, hd0, hi0, hi, h63, hne⟩, q⟩ := h
  refine ⟨_, (pss_cons (ps_augS (pv 0) pe_int get_list pe_int ip_add set_list)
    (C8.pss_cut (ps_if (PW.pt (pw_and (pt_cmpR op_eq (pe_ix ix_list (pv 0) pe_int (fun _ _ => rfl)) pe_int (nomark _)) (pw_and1 (pt_cmpR op_lt (pe_ix ix_list (pv 0) pe_int (fun _ _ => rfl)) (pe_callB call_len rfl T.z_len PySem.boot_len (pa_cons (pe_ix ix_list (pv 0) pe_int (fun _ _ => rfl)) pa_nil)) (nomark _))))) (pss_cons (ps_set (i := 2) sc_law_draw.nd rfl (Or.inl rfl) (pe_ix ix_list (pe_ix ix_list (pv 0) pe_int (fun _ _ => rfl)) (pe_ix ix_list (pv 0) pe_int (fun _ _ => rfl)) (fun _ _ => rfl)))
    (pss_cons (ps_augS (pv 0) pe_int get_list pe_int ip_add set_list)
    (pss_one (ps_if (pt_cmpR op_ge (pe_callB call_abs rfl T.z_abs (by decide +kernel) (pa_cons (pv 2) pa_nil)) (pe_op op_pow pe_int pe_int) (nomark _)) (pss_one (ps_asg (pe_callB call_abs rfl T.z_abs (by decide +kernel) (pa_cons (pv 2) pa_nil)) (pg_sub (pv 0) pe_int set_list))) (pss_one (ps_asg (pe_op op_modN (pe_callTy call_int1 rfl T.z_int (by decide +kernel) (pa_cons (pe_op op_add (pe_op op_add (pe_op op_mul (pe_ix ix_list (pv 0) pe_int (fun _ _ => rfl)) pe_int) (pv 2)) pe_int) pa_nil)) pe_int) (pg_sub (pv 0) pe_int set_list))))))) pss_nil)
    (pss_cons (ps_if (pt_cmpR op_gt (pe_ix ix_list (pv 0) pe_int (fun _ _ => rfl)) pe_int (nomark _)) (pss_cons (ps_set (i := 3) sc_law_draw.nd rfl (Or.inl rfl) (pe_op op_modN (pe_callTy call_int1 rfl T.z_int (by decide +kernel) (pa_cons (pe_ix ix_list (pv 0) pe_int (fun _ _ => rfl)) pa_nil)) (pv 1)))
    (pss_cons (ps_asg (pe_op op_fdivW (pe_ix ix_list (pv 0) pe_int (fun _ _ => rfl)) (pv 1)) (pg_sub (pv 0) pe_int set_list))
    (pss_one (ps_ret (pv 3))))) pss_nil)
    (pss_cons (ps_set (i := 4) sc_law_draw.nd rfl (Or.inl rfl) (pe_op op_modN (pe_callTy call_int1 rfl T.z_int (by decide +kernel) (pa_cons (pe_op op_mul (pe_op op_add (pe_op op_add (pe_ix ix_list (pv 0) pe_int (fun _ _ => rfl)) (pe_op op_mul pe_int (pe_ix ix_list (pv 0) pe_int (fun _ _ => rfl)))) pe_int) pe_int) pa_nil)) pe_int))
    (pss_cons (ps_set (i := 5) sc_law_draw.nd rfl (Or.inl rfl) (pe_op op_modN (pe_callTy call_int1 rfl T.z_int (by decide +kernel) (pa_cons (pe_op op_mul (pv 4) (pe_op op_add (pe_op op_fdivW (pv 4) pe_int) pe_int)) pa_nil)) pe_int))
    (pss_cons (ps_set (i := 6) sc_law_draw.nd rfl (Or.inl rfl) (pe_op op_modN (pe_callTy call_int1 rfl T.z_int (by decide +kernel) (pa_cons (pe_op op_mul (pv 5) (pe_op op_add (pe_op op_fdivW (pv 5) pe_int) pe_int)) pa_nil)) pe_int))
    (pss_one (ps_ret (pe_op op_modN (pe_callTy call_int1 rfl T.z_int (by decide +kernel) (pa_cons (pe_op op_fdivW (pv 6) pe_int) pa_nil)) (pv 1)))))))))), ?_⟩
  -- state[3] += 1
  refine ⟨_, rfl, st, _, 3, _, rfl, rfl, SqL.of h1, rfl, _, _, rfl, rfl, st, _, _, 3, rfl, rfl, h1, rfl, ?_⟩
  have k1 : Keep st H (upd H st (.lst (stL sc i d (c + 1) z))) := Keep.upd
  have e1 : upd H st (.lst (stL sc i d (c + 1) z)) st = some (.lst (stL sc i d (c + 1) z)) := upd_same
  have e2 : upd H st (.lst (stL sc i d (c + 1) z)) sc = some (.lst (cs.map V.int)) := k1 _ _ hne h2
  show C8.tCut _ _ _ _ (upd H st (.lst (stL sc i d (c + 1) z)))
  refine ⟨fun σ' H' => ∃ (v : Option V) (i' d' z' : Int), σ' = [some (.ref st), some (.int m), v, none, none, none, none] ∧
    H' = upd H st (.lst (stL sc i' d' (c + 1) z')) ∧ 0 ≤ d' ∧ 0 ≤ i' ∧ i' ≤ cs.length, ?_, ?_⟩
  · -- if state[2] == 0 and state[1] < len(state[0])
    refine ⟨_, rfl, st, _, 2, _, rfl, rfl, SqL.of e1, rfl, rfl, _, rfl, ?_⟩
    refine ite2 (fun c1 => ?_) (fun _ => iteF ⟨none, i, d, z, rfl, rfl, hd0, hi0, hi⟩)
    refine ⟨_, rfl, st, _, 1, _, rfl, rfl, SqL.of e1, rfl, _, rfl, st, _, 0, _, rfl, rfl, SqL.of e1, rfl, _, (cs.map V.int).length, rfl, .inl ⟨_, SqL.of e2, rfl⟩, _, _, rfl, rfl, _, rfl, ?_⟩
    refine ite2 (fun c2 => ?_) (fun _ => ⟨none, i, d, z, rfl, rfl, hd0, hi0, hi⟩)
    have hlt : i.toNat < cs.length := by
      have := of_decide_eq_true c2
      rw [List.length_map] at this
      omega
    have hat : atI (cs.map V.int) i = some (V.int cs[i.toNat]) := by
      have : atI (cs.map V.int) ((i.toNat : Nat) : Int) = some (V.int cs[i.toNat]) := atI_nat (by rw [List.getElem?_map, List.getElem?_eq_getElem hlt]; rfl)
      rwa [show ((i.toNat : Nat) : Int) = i by omega] at this
    -- cell = state[0][state[1]]; state[1] += 1
    refine ⟨_, rfl, st, _, 0, _, rfl, rfl, SqL.of e1, rfl, _, rfl, st, _, 1, _, rfl, rfl, SqL.of e1, rfl, sc, _, i, V.int cs[i.toNat], rfl, rfl, SqL.of e2, hat, ?_⟩
    refine ⟨_, rfl, st, _, 1, _, rfl, rfl, SqL.of e1, rfl, _, _, rfl, rfl, st, _, _, 1, rfl, rfl, e1, rfl, ?_⟩
    rw [upd_upd]
    have e3 : upd H st (.lst (stL sc (i + 1) d (c + 1) z)) st = some (.lst (stL sc (i + 1) d (c + 1) z)) := upd_same
    rw [show upd H st (.lst ((stL sc i d (c + 1) z).set 1 (V.int ((fun i j => i + j) i 1)))) = upd H st (.lst (stL sc (i + 1) d (c + 1) z)) from rfl]
    -- if abs(cell) >= 10 ** 18
    refine ⟨_, rfl, _, rfl, _, _, rfl, rfl, ⟨by decide, by decide, by decide⟩, _, _, rfl, rfl, _, rfl, ?_⟩
    refine ite2 (fun _ => ?_) (fun _ => ?_)
    · refine ⟨_, rfl, _, rfl, _, rfl, st, _, 2, 2, rfl, rfl, e3, rfl, ?_⟩
      rw [upd_upd]
      exact ⟨_, i + 1, _, z, rfl, rfl, by split <;> omega, by omega, by omega⟩
    · refine ⟨_, rfl, st, _, 4, _, rfl, rfl, SqL.of e3, rfl, _, _, rfl, rfl, .inr ⟨by decide, by decide⟩, _, rfl, _, _, rfl, rfl, _, _, rfl, rfl, .inl ⟨_, rfl, ?_⟩⟩
      refine ⟨_, _, rfl, rfl, (by show (2147483647 : Int) ≠ 0; decide), _, rfl, st, _, 4, 4, rfl, rfl, e3, rfl, ?_⟩
      rw [upd_upd]
      exact ⟨_, i + 1, _, _, rfl, rfl, hd0, by omega, by omega⟩
  · rintro σ' H' ⟨v, i', d', z', rfl, rfl, hd', hi0', hi'⟩
    have e3 : upd H st (.lst (stL sc i' d' (c + 1) z')) st = some (.lst (stL sc i' d' (c + 1) z')) := upd_same
    have e4 : ∀ i2 d2 c2 z2, upd H st (.lst (stL sc i2 d2 c2 z2)) sc = some (.lst (cs.map V.int)) := fun i2 d2 c2 z2 => by rw [upd_ne hne]; exact h2
    have fin : ∀ (r : Int) (d2 : Int), 0 ≤ d2 → 0 ≤ r → r < m → Q (.int r) (upd H st (.lst (stL sc i' d2 (c + 1) z'))) := fun r d2 h0 hr0 hr1 =>
      q r _ hr0 hr1 Keep.upd ⟨cs, i', d2, c + 1, z', upd_same, e4 _ _ _ _, h0, hi0', hi', h63, hne⟩ ⟨_, rfl⟩
    -- if state[2] > 0
    refine ⟨_, rfl, st, _, 2, _, rfl, rfl, SqL.of e3, rfl, _, _, rfl, rfl, _, rfl, ?_⟩
    refine ite2 (fun _ => ?_) (fun _ => ?_)
    · refine ⟨_, rfl, st, _, 2, _, rfl, rfl, SqL.of e3, rfl, .inl ⟨_, rfl, _, rfl, _, _, rfl, rfl, by omega, ?_⟩⟩
      refine ⟨_, rfl, st, _, 2, _, rfl, rfl, SqL.of e3, rfl, _, rfl, _, _, rfl, rfl, wide_div (b := 64) hm0 (by omega) (by decide) (by decide), ?_⟩
      refine ⟨_, rfl, st, _, 2, 2, rfl, rfl, e3, rfl, ?_⟩
      rw [upd_upd]
      refine ⟨_, rfl, fin _ _ (Int.ediv_nonneg hd' (Int.le_of_lt hm0)) ?_ ?_⟩
      · rw [Int.fmod_eq_emod_of_nonneg _ (Int.le_of_lt hm0)]; exact Int.emod_nonneg _ (by omega)
      · rw [Int.fmod_eq_emod_of_nonneg _ (Int.le_of_lt hm0)]; exact Int.emod_lt_of_pos _ hm0
    · -- one, two, three
      refine ⟨_, rfl, st, _, 4, _, rfl, rfl, SqL.of e3, rfl, _, rfl, st, _, 3, _, rfl, rfl, SqL.of e3, rfl, _, _, rfl, rfl, .inl ⟨by decide, by decide⟩, _, _, rfl, rfl, _, _, rfl, rfl, _, _, rfl, rfl, .inr ⟨by decide, by decide⟩, .inl ⟨_, rfl, _, _, rfl, rfl, (by show (2147483647 : Int) ≠ 0; decide), ?_⟩⟩
      dsimp only
      generalize hx : Int.fmod ((z' + 7919 * (c + 1) + 1) * 48271) 2147483647 = one
      have o0 : 0 ≤ one ∧ one < 2147483647 := by
        rw [← hx, Int.fmod_eq_emod_of_nonneg _ (by decide)]
        exact ⟨Int.emod_nonneg _ (by decide), Int.emod_lt_of_pos _ (by decide)⟩
      refine ⟨_, rfl, _, rfl, _, _, rfl, rfl, wide_div (b := 64) (by decide) (by decide) (by decide) (by decide), _, _, rfl, rfl, _, _, rfl, rfl, .inl ⟨by omega, by omega⟩, .inl ⟨_, rfl, _, _, rfl, rfl, (by show (2147483647 : Int) ≠ 0; decide), ?_⟩⟩
      dsimp only
      generalize hy : Int.fmod (one * (one / 1009 + 69621)) 2147483647 = two
      have t0 : 0 ≤ two ∧ two < 2147483647 := by
        rw [← hy, Int.fmod_eq_emod_of_nonneg _ (by decide)]
        exact ⟨Int.emod_nonneg _ (by decide), Int.emod_lt_of_pos _ (by decide)⟩
      refine ⟨_, rfl, _, rfl, _, _, rfl, rfl, wide_div (b := 64) (by decide) (by decide) (by decide) (by decide), _, _, rfl, rfl, _, _, rfl, rfl, .inl ⟨by omega, by omega⟩, .inl ⟨_, rfl, _, _, rfl, rfl, (by show (2147483399 : Int) ≠ 0; decide), ?_⟩⟩
      refine ⟨_, rfl, _, _, rfl, rfl, wide_div (b := 64) (by decide) (by decide) (by decide) (by decide), .inl ⟨_, rfl, _, rfl, _, _, rfl, rfl, by omega, ?_⟩⟩
      refine fin _ _ hd' ?_ ?_
      · rw [Int.fmod_eq_emod_of_nonneg _ (Int.le_of_lt hm0)]; exact Int.emod_nonneg _ (by omega)
      · rw [Int.fmod_eq_emod_of_nonneg _ (Int.le_of_lt hm0)]; exact Int.emod_lt_of_pos _ hm0
end
end K07
namespace K07
open PySem PySem.Spec PyProof.Rows L2 Td
/-! ### the letters -/
def abc : Str := "abcdefghijklmnopqrstuvwxyz"
theorem abc_list : abc.cps.toList = List.range' 97 26 := by decide +kernel
theorem abc_len : abc.length ≤ sizeLine := by
  rw [show abc.length = 26 by decide +kernel]; decide
theorem abc_at {i : Int} (h0 : 0 ≤ i) (h1 : i < 26) : atI abc.cps.toList i = some (97 + i.toNat) := by
  have : atI abc.cps.toList ((i.toNat : Nat) : Int) = some (97 + i.toNat) := atI_nat (by
    rw [abc_list, List.getElem?_range' (by omega), Nat.one_mul])
  rwa [show ((i.toNat : Nat) : Int) = i by omega] at this
theorem add_len (z : Str) (c : Nat) : (z ++ (⟨#[c]⟩ : Str)).length = z.length + 1 := by
  show (z.cps ++ #[c]).size = z.cps.size + 1
  simp
theorem add_low {z : Str} {c : Nat} (h : z.cps.toList.all lowc = true) (hc : lowc c = true) : (z ++ (⟨#[c]⟩ : Str)).cps.toList.all lowc = true := by
  show (z.cps ++ #[c]).toList.all lowc = true
  simp [List.all_append] at h ⊢
  exact ⟨h, hc⟩
theorem add_old {z : Str} {c j x : Nat} (h : z.cps[j]? = some x) : (z ++ (⟨#[c]⟩ : Str)).cps[j]? = some x := by
  show (z.cps ++ #[c])[j]? = some x
  have := (Array.getElem?_eq_some_iff.mp h).1
  rw [Array.getElem?_append_left this]; exact h
theorem add_new (z : Str) (c : Nat) : (z ++ (⟨#[c]⟩ : Str)).cps[z.length]? = some c := by
  show (z.cps ++ #[c])[z.cps.size]? = some c
  simp
theorem low_of {i : Int} (h0 : 0 ≤ i) (h1 : i < 26) : lowc (97 + i.toNat) = true := by
  unfold lowc
  simp
  omega
/-- what the names of one drawing have in common: at the place p stands the k-th letter -/
def letK (first k : Nat) : Nat := 97 + (first + 7 * k) % 26
structure NamesAt (p first : Nat) (ns : List Str) : Prop where
  good : ∀ z ∈ ns, isNm z = true
  at_ : ∀ (j : Nat) (z : Str), ns[j]? = some z → z.cps[p]? = some (letK first j)
theorem NamesAt.nodup {p first : Nat} {ns : List Str} (h : NamesAt p first ns) (hl : ns.length ≤ 26) : ns.Nodup := by
  rw [List.Nodup, List.pairwise_iff_getElem]
  intro i j hi hj hij e3
  have e1 := h.at_ i ns[i] (List.getElem?_eq_getElem hi)
  have e2 := h.at_ j ns[j] (List.getElem?_eq_getElem hj)
  rw [e3, e2] at e1
  have := Option.some.inj e1
  unfold letK at this
  omega
theorem NamesAt.snoc {p first : Nat} {ns : List Str} {z : Str} (h : NamesAt p first ns) (hz : isNm z = true) (ha : z.cps[p]? = some (letK first ns.length)) : NamesAt p first (ns ++ [z]) := by
  refine ⟨fun y hy => ?_, fun j y hy => ?_⟩
  · rcases List.mem_append.mp hy with q | q
    · exact h.good y q
    · rw [List.mem_singleton.mp q]; exact hz
  · by_cases hj : j < ns.length
    · rw [List.getElem?_append_left hj] at hy
      exact h.at_ j y hy
    · rw [List.getElem?_append_right (by omega)] at hy
      have : j = ns.length := by
        rcases Nat.lt_or_ge 0 (j - ns.length) with c | c
        · rw [List.getElem?_eq_none (by simp; omega)] at hy; cases hy
        · omega
      subst this
      simp at hy
      rw [← hy]; exact ha
def spNames : Sp := fun vs H Q _ => ∃ (st sc : Addr) (n : Int), vs = [.ref st, .int n] ∧ 0 ≤ n ∧ n ≤ 20 ∧ StOk H st sc ∧
  ∀ (p : Addr) (ns : List Str) (H' : Hp), Keep st H H' → StOk H' st sc → H p = none → p ≠ st → p ≠ sc → H' p = some (.lst (ns.map V.str)) → (ns.length : Int) = n → Names ns → Q (.ref p) H'
theorem StOk.at {H : Hp} {st sc : Addr} (h : StOk H st sc) : ∃ L, H st = some (.lst L) := by
  obtain ⟨cs, i, d, c, s, h1, _⟩ := h
  exact ⟨_, h1⟩
theorem StOk.scat {H : Hp} {st sc : Addr} (h : StOk H st sc) : ∃ L, H sc = some (.lst L) := by
  obtain ⟨cs, i, d, c, s, h1, h2, _⟩ := h
  exact ⟨_, h2⟩
theorem StOk.other {H : Hp} {st sc p : Addr} {o : HO} (h : StOk H st sc) (hp : p ≠ st) (hq : p ≠ sc) : StOk (upd H p o) st sc := by
  obtain ⟨cs, i, d, c, s, h1, h2, r⟩ := h
  exact ⟨cs, i, d, c, s, by rw [upd_ne (Ne.symm hp)]; exact h1, by rw [upd_ne (Ne.symm hq)]; exact h2, r⟩
theorem StOk.ne {H : Hp} {st sc p : Addr} (h : StOk H st sc) (hp : H p = none) : p ≠ st ∧ p ≠ sc := by
  obtain ⟨L, h1⟩ := h.at
  obtain ⟨M, h2⟩ := h.scat
  exact ⟨Ne.symm (ne_of_none h1 hp), Ne.symm (ne_of_none h2 hp)⟩
theorem StOk.new {H : Hp} {st sc p : Addr} {o : HO} (h : StOk H st sc) (hp : H p = none) : StOk (upd H p o) st sc :=
  h.other (h.ne hp).1 (h.ne hp).2
section
variable {P : Program} {w : World} {K : PySem.W.Frag} {mg : Str → Option Value} {base : Heap}
theorem ok_state (T : Tops w K mg) : FnOk P w K mg base CX0 1 T.a__law_state T.d__law_state ["_law_script"] (spState K) := by
  refine T.F__law_state.ok sc_law_state (fun vs H Q E h => ?_) (fun cdv A outer s H vs Q E hr h => ?_)
  · obtain ⟨a, ns, rfl, _⟩ := h
    rfl
  obtain ⟨a, ns, rfl, hS, hl, q⟩ := h
  refine ⟨_, (pss_one (ps_ret (pe_lst (pa_cons (pe_callTy call_list_of rfl T.z_list (by decide +kernel) (pa_cons (pe_slice sl_list (pv 0) po_none (po_some pe_int)) pa_nil)) (pa_cons pe_int (pa_cons pe_int (pa_cons pe_int (pa_cons pe_int pa_nil)))))))), ?_⟩
  have hcut : cutV (ns.map V.int) none (some 63) = ns.map V.int := by
    unfold cutV
    rw [HT.sIx_none, show HT.sIx (ns.map V.int).length (ns.map V.int).length (some 63) = min 63 (ns.map V.int).length from HT.sIx_nat _ _ 63]
    rw [List.drop_zero, List.take_of_length_le (by rw [List.length_map]; omega)]
  refine ⟨_, rfl, 63, rfl, a, _, rfl, hS, fun p hp => ⟨p, _, rfl, .inl (SqL.of upd_same), fun l hl2 => ⟨by show 5 ≤ sizeLine; decide, fun st hst => ?_⟩⟩⟩
  rw [hcut] at hl2 hst ⊢
  have npl : p ≠ l := fun e => by rw [e, upd_same] at hl2; cases hl2
  have hl0 : H l = none := by rw [upd_ne (Ne.symm npl)] at hl2; exact hl2
  have nls : l ≠ st := fun e => by rw [e, upd_same] at hst; cases hst
  have hst2 : H st = none := by
    rw [upd_ne (Ne.symm nls)] at hst
    by_cases c : st = p
    · rw [c, upd_same] at hst; cases hst
    · rw [upd_ne c] at hst; exact hst
  refine q st l _ (fun b o e => ?_) hst2 hl0 ⟨ns, 0, 0, 0, 1, upd_same, by rw [upd_ne nls, upd_same], by decide, by decide, by omega, hl, nls⟩
  rw [upd_ne (ne_of_none e hst2), upd_ne (ne_of_none e hl0), upd_ne (ne_of_none e hp)]
  exact e
theorem ok_names (T : Tops w K mg) (G__law_draw : FnOk P w K mg base CX0 1 T.a__law_draw T.d__law_draw ["_law_state_here", "_law_many_here"] spDraw) :
    FnOk P w K mg base CX0 2 T.a__law_names T.d__law_names ["_law_state_here", "_law_many_here"] spNames := by
  refine T.F__law_names.ok sc_law_names (fun vs H Q E h => ?_) (fun cdv A outer s H vs Q E hr h => ?_)
  · obtain ⟨st, sc, m, rfl, _⟩ := h
    rfl
  obtain ⟨st, sc, n, rfl, hn0, hn1, hst, q⟩ := h
  refine ⟨_, (pss_cons (ps_set (i := 2) sc_law_names.nd rfl (Or.inl rfl) (pe_call G__law_draw (hr.mono (by omega)) rfl T.m__law_draw T.F__law_draw.kp T.b__law_draw .nil pass0 (pa_cons (pv 0) (pa_cons pe_int pa_nil))))
    (pss_cons (ps_set (i := 3) sc_law_names.nd rfl (Or.inl rfl) (pe_call G__law_draw (hr.mono (by omega)) rfl T.m__law_draw T.F__law_draw.kp T.b__law_draw .nil pass0 (pa_cons (pv 0) (pa_cons pe_int pa_nil))))
    (pss_cons (ps_set (i := 4) sc_law_names.nd rfl (Or.inl rfl) (pe_call G__law_draw (hr.mono (by omega)) rfl T.m__law_draw T.F__law_draw.kp T.b__law_draw .nil pass0 (pa_cons (pv 0) (pa_cons pe_int pa_nil))))
    (pss_cons (ps_set (i := 5) sc_law_names.nd rfl (Or.inl rfl) (pe_call G__law_draw (hr.mono (by omega)) rfl T.m__law_draw T.F__law_draw.kp T.b__law_draw .nil pass0 (pa_cons (pv 0) (pa_cons (pe_op op_pow pe_int pe_int) pa_nil))))
    (pss_cons (ps_set (i := 6) sc_law_names.nd rfl (Or.inl rfl) pe_str)
    (pss_cons (ps_set (i := 7) sc_law_names.nd rfl (Or.inl rfl) (pe_lst pa_nil))
    (pss_cons (ps_for PassesOwn.never rfl (pi_range1 rfl T.z_range (pa_cons (pv 1) pa_nil)) (pg_name (i := 8) sc_law_names.nd rfl (Or.inl rfl)) (pss_cons (ps_set (i := 9) sc_law_names.nd rfl (Or.inl rfl) (pv 5))
    (pss_cons (ps_set (i := 10) sc_law_names.nd rfl (Or.inl rfl) (pe_op op_add (pv 2) pe_int))
    (C8.pss_cut (ps_if (pt_cmpR op_eq (pv 4) pe_int (nomark _)) (pss_cons (ps_set (i := 9) sc_law_names.nd rfl (Or.inl rfl) (pe_call G__law_draw (hr.mono (by omega)) rfl T.m__law_draw T.F__law_draw.kp T.b__law_draw .nil pass0 (pa_cons (pv 0) (pa_cons (pe_op op_pow pe_int pe_int) pa_nil))))
    (pss_one (ps_set (i := 10) sc_law_names.nd rfl (Or.inl rfl) (pe_op op_add (pe_op op_add (pv 2) pe_int) (pe_call G__law_draw (hr.mono (by omega)) rfl T.m__law_draw T.F__law_draw.kp T.b__law_draw .nil pass0 (pa_cons (pv 0) (pa_cons (pe_op op_sub pe_int (pv 2)) pa_nil))))))) pss_nil)
    (pss_cons (ps_set (i := 11) sc_law_names.nd rfl (Or.inl rfl) pe_str)
    (pss_cons (ps_for PassesOwn.never rfl (pi_range1 rfl T.z_range (pa_cons (pv 10) pa_nil)) (pg_name (i := 12) sc_law_names.nd rfl (Or.inl rfl)) (pss_one (ps_if (pt_cmpR op_eq (pv 12) (pv 2) (nomark _)) (pss_one (ps_set (i := 11) sc_law_names.nd rfl (Or.inl rfl) (pe_op op_add_str (pv 11) (pe_ix ix_str (pv 6) (pe_op op_modN (pe_callTy call_int1 rfl T.z_int (by decide +kernel) (pa_cons (pe_op op_add (pv 3) (pe_op op_mul pe_int (pv 8))) pa_nil)) pe_int) (fun _ _ => rfl))))) (pss_cons (ps_set (i := 11) sc_law_names.nd rfl (Or.inl rfl) (pe_op op_add_str (pv 11) (pe_ix ix_str (pv 6) (pe_op op_modN (pe_callTy call_int1 rfl T.z_int (by decide +kernel) (pa_cons (pv 9) pa_nil)) pe_int) (fun _ _ => rfl))))
    (pss_one (ps_set (i := 9) sc_law_names.nd rfl (Or.inl rfl) (pe_op op_fdivW (pv 9) pe_int)))))))
    (pss_one (ps_expr (pe_bm PySem.F.plainAttrs_list PySem.F.slot_list_append PySem.F.type_list_append mt_append (pv 7) (pa_cons (pv 11) pa_nil))))))))))
    (pss_one (ps_ret (pv 7)))))))))), ?_⟩
  refine ⟨_, rfl, st, sc, 8, rfl, by decide, by decide, hst, fun pl H1 pl0 pl1 k1 s1 _ => ?_⟩
  refine ⟨_, rfl, st, sc, 26, rfl, by decide, by decide, s1, fun fi H2 fi0 fi1 k2 s2 _ => ?_⟩
  refine ⟨_, rfl, st, sc, 2, rfl, by decide, by decide, s2, fun sh H3 sh0 sh1 k3 s3 _ => ?_⟩
  refine ⟨_, rfl, _, _, rfl, rfl, ⟨by decide, by decide, by decide⟩, st, sc, _, rfl, by decide, by decide, s3, fun ba H4 ba0 ba1 k4 s4 _ => ?_⟩
  have k04 : Keep st H H4 := k1.trans (k2.trans (k3.trans k4))
  refine ⟨Nat.zero_le _, fun p hp => ?_⟩
  obtain ⟨nps, npc⟩ := s4.ne hp
  have hp0 : H p = none := k04.free nps hp
  refine ⟨_, rfl, n, rfl, by omega, by omega, for_range (lo := 0) (n := n.toNat) (fun i σ H' => ∃ (v8 v9 v10 v11 v12 : Option V) (ns : List Str),
    σ = [some (.ref st), some (.int n), some (.int pl), some (.int fi), some (.int sh), some (.int ba), some (.str abc), some (.ref p), v8, v9, v10, v11, v12] ∧
    Keep st H H' ∧ StOk H' st sc ∧ H' p = some (.lst (ns.map V.str)) ∧ ns.length = i ∧ NamesAt pl.toNat fi.toNat ns)
    ⟨none, none, none, none, none, [], rfl, k04.trans (Keep.new hp), s4.new hp, upd_same, rfl, ⟨fun z h => (List.not_mem_nil h).elim, fun j z h => by simp at h⟩⟩ ?_ ?_⟩
  · rintro i σ H' hi ⟨v8, v9, v10, v11, v12, ns, rfl, kH, sH, hpH, hlen, hN⟩
    refine ⟨_, rfl, _, rfl, _, _, rfl, rfl, ?_⟩
    refine ⟨fun σ' H'' => ∃ (o sz : Int), σ' = [some (.ref st), some (.int n), some (.int pl), some (.int fi), some (.int sh), some (.int ba), some (.str abc), some (.ref p), some (.int (0 + i)), some (.int o), some (.int sz), v11, v12] ∧
      Keep st H H'' ∧ StOk H'' st sc ∧ H'' p = some (.lst (ns.map V.str)) ∧ 0 ≤ o ∧ pl + 1 ≤ sz ∧ sz ≤ 8, ?_, ?_⟩
    · refine ⟨_, rfl, rfl, _, rfl, ?_⟩
      refine ite2 (fun _ => ?_) (fun _ => ⟨ba, pl + 1, rfl, kH, sH, hpH, ba0, by omega, by omega⟩)
      refine ⟨_, rfl, _, _, rfl, rfl, ⟨by decide, by decide, by decide⟩, st, sc, _, rfl, by decide, by decide, sH, fun o H5 o0 o1 k5 s5 _ => ?_⟩
      refine ⟨_, rfl, _, _, rfl, rfl, _, rfl, _, rfl, _, _, rfl, rfl, st, sc, _, rfl, by omega, by omega, s5, fun sz H6 z0 z1 k6 s6 _ => ⟨_, _, rfl, rfl, ?_⟩⟩
      exact ⟨o, _, rfl, kH.trans (k5.trans k6), s6, k6 _ _ nps (k5 _ _ nps hpH), o0, by omega, by omega⟩
    · rintro σ' H'' ⟨o, sz, rfl, kJ, sJ, hpJ, o0, sz0, sz1⟩
      -- name = ''; for at in range(size)
      refine ⟨_, rfl, sz, rfl, by omega, by omega, for_range (lo := 0) (n := sz.toNat) (fun j σ H5 => ∃ (o : Int) (z : Str) (v12 : Option V),
        σ = [some (.ref st), some (.int n), some (.int pl), some (.int fi), some (.int sh), some (.int ba), some (.str abc), some (.ref p), some (.int (0 + i)), some (.int o), some (.int sz), some (.str z), v12] ∧
        H5 = H'' ∧ 0 ≤ o ∧ z.length = j ∧ z.cps.toList.all lowc = true ∧ (pl.toNat < j → z.cps[pl.toNat]? = some (letK fi.toNat i)))
        ⟨o, "", v12, rfl, rfl, o0, by decide +kernel, by decide +kernel, fun h => by omega⟩ ?_ ?_⟩
      · rintro j σ H5 hj ⟨o, z, v12, rfl, rfl, o0, zl, za, zp⟩
        have zsz : z.length + 1 ≤ sizeLine := Nat.le_of_lt (small1000 (by omega))
        refine ⟨_, rfl, _, rfl, rfl, _, rfl, ?_⟩
        refine ite2 (fun c => ?_) (fun c => ?_)
        · have c' : (V.int (0 + (j : Int))) = V.int pl := of_decide_eq_true c
          have cj : (0 : Int) + (j : Int) = pl := by injection c'
          have m0 : 0 ≤ Int.fmod (fi + 7 * (0 + (i : Int))) 26 ∧ Int.fmod (fi + 7 * (0 + (i : Int))) 26 < 26 := by
            rw [Int.fmod_eq_emod_of_nonneg _ (by decide)]
            exact ⟨Int.emod_nonneg _ (by decide), Int.emod_lt_of_pos _ (by decide)⟩
          have mk : (Int.fmod (fi + 7 * (0 + (i : Int))) 26).toNat = (fi.toNat + 7 * i) % 26 := by
            rw [Int.fmod_eq_emod_of_nonneg _ (by decide)]
            omega
          refine ⟨_, rfl, _, rfl, _, rfl, _, rfl, _, _, rfl, rfl, .inl ⟨by decide, by decide⟩, _, _, rfl, rfl, .inl ⟨_, rfl, _, _, rfl, rfl, (by show (26 : Int) ≠ 0; decide), abc, _, _, rfl, rfl, abc_len, abc_at m0.1 m0.2, _, _, rfl, rfl, zsz, ?_⟩⟩
          refine ⟨o, _, _, rfl, rfl, o0, by rw [add_len, zl], add_low za (low_of m0.1 m0.2), fun _ => ?_⟩
          have hz : z.length = pl.toNat := by omega
          have e := add_new z (97 + (Int.fmod (fi + 7 * (0 + (i : Int))) 26).toNat)
          rw [hz, mk] at e
          unfold letK
          rw [mk]
          exact e
        · have m0 : 0 ≤ Int.fmod o 26 ∧ Int.fmod o 26 < 26 := by
            rw [Int.fmod_eq_emod_of_nonneg _ (by decide)]
            exact ⟨Int.emod_nonneg _ (by decide), Int.emod_lt_of_pos _ (by decide)⟩
          refine ⟨_, rfl, _, rfl, _, rfl, .inl ⟨_, rfl, _, _, rfl, rfl, (by show (26 : Int) ≠ 0; decide), abc, _, _, rfl, rfl, abc_len, abc_at m0.1 m0.2, _, _, rfl, rfl, zsz, ?_⟩⟩
          refine ⟨_, rfl, _, _, rfl, rfl, wide_div (b := 64) (by decide) (by decide) (by decide) (by decide), ?_⟩
          refine ⟨o / 26, _, _, rfl, rfl, Int.ediv_nonneg o0 (by decide), by rw [add_len, zl], add_low za (low_of m0.1 m0.2), fun hlt => ?_⟩
          have hne : ¬ (V.int (0 + (j : Int)) = V.int pl) := of_decide_eq_false (Bool.eq_false_iff.mpr c)
          have hne2 : ¬ ((0 : Int) + (j : Int) = pl) := fun e => hne (by rw [e])
          exact add_old (zp (by omega))
      · rintro σ H5 ⟨o, z, v12, rfl, rfl, o0, zl, za, zp⟩
        have hns : (ns.map V.str).length < sizeLine := small1000 (by rw [List.length_map]; omega)
        refine ⟨_, rfl, .inl ⟨rfl, _, SqL.of hpJ⟩, _, rfl, p, _, _, rfl, rfl, hpJ, hns, ?_⟩
        have hnm : isNm z = true := by
          unfold isNm
          rw [za, zl]
          simp
          omega
        refine ⟨_, _, _, _, _, ns ++ [z], rfl, kJ.own hp0, sJ.other nps npc, ?_, ?_, ?_⟩
        · rw [upd_same, List.map_append]; rfl
        · rw [List.length_append, hlen]; rfl
        · exact hN.snoc hnm (by rw [hlen]; exact zp (by omega))
  · rintro σ H' ⟨v8, v9, v10, v11, v12, ns, rfl, kH, sH, hpH, hlen, hN⟩
    refine ⟨_, rfl, q p ns H' kH sH hp0 nps npc hpH (by omega) ⟨hN.good, hN.nodup (by omega)⟩⟩
end
end K07
namespace K07
open PySem PySem.Spec PyProof.Rows L2 Td
/-- all rows, counted at all depths; n: how deep it may still go -/
def spMany (K : PySem.W.Frag) (n : Nat) : Sp := fun vs H Q _ => ∃ (v : V) (rs : List Td.Row) (S : Sc) (dep : Nat),
  vs = [v] ∧ Dp K H v (.tuple (rowsD rs)) ∧ okRs S dep rs ∧ dep ≤ 4 ∧ 5 ≤ dep + n ∧ Q (.int (cnts rs : Nat)) H
section
variable {P : Program} {w : World} {K : PySem.W.Frag} {mg : Str → Option Value} {base : Heap}
theorem ok_many1 (T : Tops w K mg) {n : Nat} (G__law_many : FnOk P w K mg base CX0 n T.a__law_many T.d__law_many ["_law_rows_here"] (spMany K n)) :
    FnOk P w K mg base CX0 (n + 1) T.a__law_many T.d__law_many ["_law_rows_here"] (spMany K (n + 1)) := by
  refine T.F__law_many.ok sc_law_many (fun vs H Q E h => ?_) (fun cdv A outer s H vs Q E hr h => ?_)
  · obtain ⟨v, rs, S, dep, rfl, _⟩ := h
    rfl
  obtain ⟨v, rs, S, dep, rfl, hD, ok, hdep, hn, q⟩ := h
  obtain ⟨a, xs, rfl, hS, hl, hx⟩ := rows_at hD
  refine ⟨_, (pss_cons (ps_set (i := 1) sc_law_many.nd rfl (Or.inl rfl) (pe_callB call_len rfl T.z_len PySem.boot_len (pa_cons (pv 0) pa_nil)))
    (pss_cons (ps_for PassesOwn.never rfl (pi_tup (pv 0)) (pg_name (i := 2) sc_law_many.nd rfl (Or.inl rfl)) (pss_one (ps_if (pt_cmpR op_eq (pe_ix ix_tup (pv 2) pe_int (fun _ _ => rfl)) pe_str (nomark _)) (pss_one (ps_aug (i := 1) sc_law_many.nd rfl (Or.inl rfl) (pe_op op_add (pe_call G__law_many (hr.mono (by omega)) rfl T.m__law_many T.F__law_many.kp T.b__law_many .nil pass0 (pa_cons (pe_ix ix_tup (pv 2) pe_int (fun _ _ => rfl)) pa_nil)) (pe_call G__law_many (hr.mono (by omega)) rfl T.m__law_many T.F__law_many.kp T.b__law_many .nil pass0 (pa_cons (pe_ix ix_tup (pv 2) pe_int (fun _ _ => rfl)) pa_nil))) ip_add)) pss_nil)))
    (pss_one (ps_ret (pv 1))))), ?_⟩
  refine ⟨_, rfl, _, _, rfl, .inr ⟨_, hS, rfl⟩, ?_⟩
  refine ⟨_, rfl, a, rfl, ⟨_, hS⟩, for_tup (K := K) (a := a) (xs := xs) (fun i σ H' => ∃ (v2 : Option V), H' = H ∧
    σ = [some (.ref a), some (.int ((cnts (rs.take i) + (rs.length - i) : Nat) : Int)), v2])
    ⟨none, rfl, ?_⟩ (fun i σ H' _ ⟨_, e, _⟩ => by rw [e]; exact hS) ?_ ?_⟩
  · show [some (V.ref a), some (V.int (xs.length : Nat)), none] = _
    rw [hl]
    simp [cnts]
  · rintro i x σ H' hi ⟨v2, rfl, rfl⟩
    obtain ⟨r, hr2, hDr⟩ := hx i x hi
    have hil : i < rs.length := (List.getElem?_eq_some_iff.mp hr2).1
    have okr := okRs_get ok hr2
    have step := cnts_take hr2
    have hp := cnt_pos r
    cases hite : isIte r with
    | false =>
      obtain ⟨ar, ys, rfl, hSr, h0⟩ := row_at hDr
      refine ⟨_, rfl, ar, _, 0, _, rfl, rfl, hSr, atI_nat (j := 0) h0, rfl, _, rfl, ?_⟩
      refine if_false_of ((tag_if r).trans hite) ⟨some (.ref ar), rfl, ?_⟩
      have hc := cnt_flat hite
      have e : cnts (rs.take i) + (rs.length - i) = cnts (rs.take (i + 1)) + (rs.length - (i + 1)) := by omega
      rw [← e]; rfl
    | true =>
      cases r with
      | ite sl wd y n' =>
        obtain ⟨ar, vy, vn, rfl, hSr, hy, hn'⟩ := ite_at hDr
        unfold okR at okr
        obtain ⟨hd3, _, _, oy, on⟩ := okr
        refine ⟨_, rfl, ar, _, 0, _, rfl, rfl, hSr, rfl, rfl, _, rfl, ?_⟩
        refine if_true_of (by decide +kernel) ?_
        refine ⟨_, rfl, _, rfl, ar, _, 3, _, rfl, rfl, hSr, rfl, vy, y, S, dep + 1, rfl, hy, oy, by omega, by omega, ?_⟩
        refine ⟨_, rfl, ar, _, 4, _, rfl, rfl, hSr, rfl, vn, n', S, dep + 1, rfl, hn', on, by omega, by omega, ?_⟩
        refine ⟨_, _, rfl, rfl, _, _, rfl, rfl, some (.ref ar), rfl, ?_⟩
        have ec : Td.cnt (.ite sl wd y n') = 1 + cnts y + cnts n' := by unfold Td.cnt; rfl
        have e : ((cnts (rs.take i) + (rs.length - i) : Nat) : Int) + ((cnts y : Nat) + (cnts n' : Nat)) = ((cnts (rs.take (i + 1)) + (rs.length - (i + 1)) : Nat) : Int) := by omega
        rw [← e]; rfl
      | _ => cases hite
  · rintro σ H' ⟨v2, rfl, rfl⟩
    refine ⟨_, rfl, ?_⟩
    rw [hl, List.take_length, Nat.sub_self, Nat.add_zero]
    exact q
theorem ok_many (T : Tops w K mg) : ∀ n, FnOk P w K mg base CX0 n T.a__law_many T.d__law_many ["_law_rows_here"] (spMany K n)
  | 0 => by
    have no : ∀ vs H Q E, ¬ spMany K 0 vs H Q E := fun vs H Q E h => by
      obtain ⟨_, _, _, dep, _, _, _, h1, h2, _⟩ := h
      omega
    exact ⟨fun vs H Q E h => absurd h (no vs H Q E), fun A outer s H args us vs Q E _ _ _ _ h => absurd h (no vs H Q E)⟩
  | n + 1 => ok_many1 T (ok_many T n)
end
end K07
namespace K07
open PySem PySem.Spec PyProof.Rows L2 Td
/-- the dict that says what a body may be, at d -/
structure ShapeAt (K : PySem.W.Frag) (st : Addr) (H : Hp) (d : Addr) (S : Sc) (slots : List Str) : Prop where
  ex : ∃ (kvs : List (Key × V)) (aw asl ac aso : Addr) (pk wr : Bool),
    H d = some (.dK kvs) ∧ kvs.length ≤ 100 ∧
    valV kvs (.inr "words") = some (.ref aw) ∧ SqT K H aw (S.words.map V.str) ∧ aw ≠ st ∧
    valV kvs (.inr "slots") = some (.ref asl) ∧ SqL K H asl (slots.map V.str) ∧ asl ≠ st ∧
    valV kvs (.inr "cells") = some (.ref ac) ∧ SqL K H ac (S.readable.map V.str) ∧ ac ≠ st ∧
    valV kvs (.inr "sources") = some (.ref aso) ∧ SqT K H aso (S.sources.map V.str) ∧ aso ≠ st ∧
    valV kvs (.inr "kind") = some (.str (if S.eff then "effects" else "derived")) ∧
    valV kvs (.inr "peeks") = some (.bl pk) ∧ valV kvs (.inr "writes") = some (.bl wr) ∧ (pk = true → S.eff = true) ∧ (wr = true → S.eff = true)
  ne : d ≠ st
  w0 : S.words ≠ []
  s0 : slots ≠ []
  c0 : S.readable ≠ []
  o0 : S.sources ≠ []
  small : S.words.length ≤ 100 ∧ slots.length ≤ 100 ∧ S.readable.length ≤ 100 ∧ S.sources.length ≤ 100
  good : ∀ z ∈ slots, isNm z = true
section
variable {K : PySem.W.Frag} {H H' : Hp} {st sc d : Addr} {S : Sc} {slots : List Str}
theorem ShapeAt.keep (h : ShapeAt K st H d S slots) (k : Keep st H H') : ShapeAt K st H' d S slots := by
  obtain ⟨kvs, aw, asl, ac, aso, pk, wr, e0, e00, e1, e2, e3, e4, e5, e6, e7, e8, e9, e10, e11, e12, r⟩ := h.ex
  exact ⟨⟨kvs, aw, asl, ac, aso, pk, wr, k _ _ h.ne e0, e00, e1, SqT.keep k e3 e2, e3, e4, SqL.keep k e6 e5, e6, e7, SqL.keep k e9 e8, e9, e10, SqT.keep k e12 e11, e12, r⟩, h.ne, h.w0, h.s0, h.c0, h.o0, h.small, h.good⟩
theorem dget_of {a : Addr} {kvs : List (Key × V)} {z : Str} {v : V} (e : H a = some (.dK kvs)) (h : valV kvs (.inr z) = some v) : DGet H a (.str z) (some v) := by
  rw [← h]; exact DGet.k (k := Sum.inr z) e
/-- an item, drawn -/
theorem pick {xs : List Str} {r : Int} (h0 : 0 ≤ r) (h1 : r < (xs.map V.str).length) : ∃ z ∈ xs, atI (xs.map V.str) r = some (.str z) := by
  rw [List.length_map] at h1
  have hl : r.toNat < xs.length := by omega
  refine ⟨xs[r.toNat], List.getElem_mem hl, ?_⟩
  have : atI (xs.map V.str) ((r.toNat : Nat) : Int) = some (V.str xs[r.toNat]) := atI_nat (by rw [List.getElem?_map, List.getElem?_eq_getElem hl]; rfl)
  rwa [show ((r.toNat : Nat) : Int) = r by omega] at this
def rLen (K : PySem.W.Frag) : List V → Hp → VK → Prop := fun xs H Q => ∃ x n, xs = [x] ∧ LenV K x H n ∧ Q (.int n) H
def tPick (K : PySem.W.Frag) (r : R2) (key : Str) : TE := tOp r (tDGet (tVar 1) (tC (.str key)))
  (tCall spDraw [] E0 (tCons (tVar 0) (tCons (tCB (rLen K) (tCons (tDGet (tVar 1) (tC (.str key))) tNil)) tNil)))
theorem pick_l {σ : L2.St} {Q : VK} {key : Str} {kvs : List (Key × V)} {a : Addr} {xs : List Str} (h0 : σ[0]? = some (some (.ref st))) (h1 : σ[1]? = some (some (.ref d)))
    (hd : H d = some (.dK kvs)) (nd : d ≠ st) (hv : valV kvs (.inr key) = some (.ref a)) (hS : SqL K H a (xs.map V.str)) (na : a ≠ st) (hx : xs ≠ []) (hl : xs.length ≤ 100) (ok : StOk H st sc)
    (q : ∀ z ∈ xs, ∀ H', Keep st H H' → StOk H' st sc → Q (.str z) H') : tPick K (rIxL K) key σ H Q := by
  have hp : 0 < xs.length := List.length_pos_iff.mpr hx
  refine ⟨_, h1, d, _, rfl, dget_of hd hv, _, h0, _, h1, d, _, rfl, dget_of hd hv, _, (xs.map V.str).length, rfl, .inl ⟨_, hS, rfl⟩, st, sc, _, rfl, ?_, ?_, ok, fun r H' r0 r1 k o _ => ?_⟩
  · rw [List.length_map]; omega
  · rw [List.length_map]; omega
  · obtain ⟨z, hz, e⟩ := pick r0 r1
    exact ⟨a, _, r, _, rfl, rfl, SqL.keep k na hS, e, q z hz H' k o⟩
theorem pick_t {σ : L2.St} {Q : VK} {key : Str} {kvs : List (Key × V)} {a : Addr} {xs : List Str} (h0 : σ[0]? = some (some (.ref st))) (h1 : σ[1]? = some (some (.ref d)))
    (hd : H d = some (.dK kvs)) (nd : d ≠ st) (hv : valV kvs (.inr key) = some (.ref a)) (hS : SqT K H a (xs.map V.str)) (na : a ≠ st) (hx : xs ≠ []) (hl : xs.length ≤ 100) (ok : StOk H st sc)
    (q : ∀ z ∈ xs, ∀ H', Keep st H H' → StOk H' st sc → Q (.str z) H') : tPick K (rIxT K) key σ H Q := by
  have hp : 0 < xs.length := List.length_pos_iff.mpr hx
  refine ⟨_, h1, d, _, rfl, dget_of hd hv, _, h0, _, h1, d, _, rfl, dget_of hd hv, _, (xs.map V.str).length, rfl, .inr ⟨_, hS, rfl⟩, st, sc, _, rfl, ?_, ?_, ok, fun r H' r0 r1 k o _ => ?_⟩
  · rw [List.length_map]; omega
  · rw [List.length_map]; omega
  · obtain ⟨z, hz, e⟩ := pick r0 r1
    exact ⟨a, _, r, _, rfl, rfl, SqT.keep k na hS, e, q z hz H' k o⟩
end
def spRow (K : PySem.W.Frag) : Sp := fun vs H Q _ => ∃ (st sc d : Addr) (S : Sc) (slots : List Str), vs = [.ref st, .ref d] ∧ StOk H st sc ∧ ShapeAt K st H d S slots ∧
  ∀ (v : V) (r : Td.Row) (H' : Hp), Keep st H H' → StOk H' st sc → (∀ dep, okR S dep r) → isIte r = false → Tn K H' v (rowD r) → Q v H'
section
variable {P : Program} {w : World} {K : PySem.W.Frag} {mg : Str → Option Value} {base : Heap}
theorem ok_row (T : Tops w K mg) (G__law_draw : FnOk P w K mg base CX0 1 T.a__law_draw T.d__law_draw ["_law_state_here", "_law_many_here"] spDraw) :
    FnOk P w K mg base CX0 2 T.a__law_row T.d__law_row ["_law_state_here", "_law_shape"] (spRow K) := by
  refine T.F__law_row.ok sc_law_row (fun vs H Q E h => ?_) (fun cdv A outer s H vs Q E hr h => ?_)
  · obtain ⟨st, sc, d, S, slots, rfl, _⟩ := h
    rfl
  obtain ⟨st, sc, d, S, slots, rfl, ok, sh, q⟩ := h
  refine ⟨_, (pss_cons (ps_set (i := 2) sc_law_row.nd rfl (Or.inl rfl) (pe_call G__law_draw (hr.mono (by omega)) rfl T.m__law_draw T.F__law_draw.kp T.b__law_draw .nil pass0 (pa_cons (pv 0) (pa_cons pe_int pa_nil))))
    (pss_cons (ps_set (i := 3) sc_law_row.nd rfl (Or.inl rfl) (pe_ix ix_list (pe_dget (hu_of hr) (pv 1) pe_str (fun _ _ => rfl)) (pe_call G__law_draw (hr.mono (by omega)) rfl T.m__law_draw T.F__law_draw.kp T.b__law_draw .nil pass0 (pa_cons (pv 0) (pa_cons (pe_callB call_len rfl T.z_len PySem.boot_len (pa_cons (pe_dget (hu_of hr) (pv 1) pe_str (fun _ _ => rfl)) pa_nil)) pa_nil))) (fun _ _ => rfl)))
    (pss_cons (ps_if (pt_cmpR op_eq (pv 2) pe_int (nomark _)) (pss_one (ps_ret (pe_tup (pa_cons pe_str (pa_cons (pv 3) (pa_cons (pe_ix ix_tup (pe_dget (hu_of hr) (pv 1) pe_str (fun _ _ => rfl)) (pe_call G__law_draw (hr.mono (by omega)) rfl T.m__law_draw T.F__law_draw.kp T.b__law_draw .nil pass0 (pa_cons (pv 0) (pa_cons (pe_callB call_len rfl T.z_len PySem.boot_len (pa_cons (pe_dget (hu_of hr) (pv 1) pe_str (fun _ _ => rfl)) pa_nil)) pa_nil))) (fun _ _ => rfl)) pa_nil)))))) pss_nil)
    (C8.pss_cut (ps_if (PW.pt (pw_and (pt_cmpR op_eq (pv 2) pe_int (nomark _)) (pw_and1 (pt_cmpR op_eq (pe_dget (hu_of hr) (pv 1) pe_str (fun _ _ => rfl)) pe_str (nomark _))))) (pss_one (ps_ret (pe_tup (pa_cons pe_str (pa_cons (pv 3) pa_nil))))) pss_nil)
    (pss_cons (ps_if (pt_cmpR op_eq (pv 2) pe_int (nomark _)) (pss_one (ps_ret (pe_tup (pa_cons pe_str (pa_cons (pv 3) pa_nil))))) pss_nil)
    (C8.pss_cut (ps_if (PW.pt (pw_and (pt_cmpR op_eq (pv 2) pe_int (nomark _)) (pw_and1 (pt_val (pe_dget (hu_of hr) (pv 1) pe_str (fun _ _ => rfl)))))) (pss_one (ps_ret (pe_tup (pa_cons pe_str (pa_cons (pe_ix ix_tup (pe_dget (hu_of hr) (pv 1) pe_str (fun _ _ => rfl)) (pe_call G__law_draw (hr.mono (by omega)) rfl T.m__law_draw T.F__law_draw.kp T.b__law_draw .nil pass0 (pa_cons (pv 0) (pa_cons (pe_callB call_len rfl T.z_len PySem.boot_len (pa_cons (pe_dget (hu_of hr) (pv 1) pe_str (fun _ _ => rfl)) pa_nil)) pa_nil))) (fun _ _ => rfl)) (pa_cons (pv 3) pa_nil)))))) pss_nil)
    (pss_cons (ps_set (i := 4) sc_law_row.nd rfl (Or.inl rfl) (pe_ix ix_list (pe_dget (hu_of hr) (pv 1) pe_str (fun _ _ => rfl)) (pe_call G__law_draw (hr.mono (by omega)) rfl T.m__law_draw T.F__law_draw.kp T.b__law_draw .nil pass0 (pa_cons (pv 0) (pa_cons (pe_callB call_len rfl T.z_len PySem.boot_len (pa_cons (pe_dget (hu_of hr) (pv 1) pe_str (fun _ _ => rfl)) pa_nil)) pa_nil))) (fun _ _ => rfl)))
    (C8.pss_cut (ps_if (PW.pt (pw_and (pt_cmpR op_eq (pv 2) pe_int (nomark _)) (pw_and1 (pt_val (pe_dget (hu_of hr) (pv 1) pe_str (fun _ _ => rfl)))))) (pss_one (ps_ret (pe_tup (pa_cons pe_str (pa_cons (pv 4) (pa_cons (pv 3) pa_nil)))))) pss_nil)
    (pss_one (ps_ret (pe_tup (pa_cons pe_str (pa_cons (pv 4) (pa_cons (pv 3) pa_nil)))))))))))))), ?_⟩
  -- kind, slot
  refine ⟨_, rfl, st, sc, 6, rfl, by decide, by decide, ok, fun kd H1 kd0 kd1 k1 o1 _ => ?_⟩
  have sh1 := sh.keep k1
  obtain ⟨kvs, aw, asl, ac, aso, pk, wr, e0, e00, e1, e2, e3, e4, e5, e6, e7, e8, e9, e10, e11, e12, e13, e14, e15, e16, e17⟩ := sh1.ex
  refine pick_l (key := "slots") rfl rfl e0 sh1.ne e4 e5 e6 sh1.s0 sh1.small.2.1 o1 fun sl hsl H2 k2 o2 => ?_
  have hsl' := sh.good sl hsl
  have k12 := k1.trans k2
  have sh2 := sh1.keep k2
  obtain ⟨kvs, aw, asl, ac, aso, pk, wr, e0, e00, e1, e2, e3, e4, e5, e6, e7, e8, e9, e10, e11, e12, e13, e14, e15, e16, e17⟩ := sh2.ex
  have give : ∀ (zs : List Str) (r : Td.Row), zs.length ≤ 5 → rowD r = .tuple (zs.map PyData.str) → (∀ dep, okR S dep r) → isIte r = false →
      ∀ H3, Keep st H H3 → StOk H3 st sc → (zs.map V.str).length ≤ sizeLine ∧ ∀ p, H3 p = none → Q (.ref p) (upd H3 p (.tup (zs.map V.str))) := fun zs r hz hr ho hi H3 k3 o3 =>
    ⟨Nat.le_of_lt (small1000 (by rw [List.length_map]; omega)), fun p hp => q _ r _ (k3.trans (Keep.new hp)) (o3.new hp) ho hi (by rw [hr]; exact Tn.new (TnAll.strs zs) hp)⟩
  -- kind == 0: put
  refine ⟨_, rfl, rfl, _, rfl, ?_⟩
  refine ite2 (fun _ => ?_) (fun _ => ?_)
  · refine ⟨_, rfl, pick_t (key := "words") rfl rfl e0 sh2.ne e1 e2 e3 sh2.w0 sh2.small.1 o2 fun wd hwd H3 k3 o3 => ?_⟩
    exact give ["put", sl, wd] (.put sl wd) (Nat.le_of_ble_eq_true rfl) rfl (fun dep => by unfold okR; exact ⟨hsl', hwd⟩) rfl H3 (k12.trans k3) o3
  -- kind == 1 and shape["kind"] == "derived": give
  refine ⟨fun σ' H' => H' = H2 ∧ σ' = [some (.ref st), some (.ref d), some (.int kd), some (.str sl), none] ∧ (kd = 1 → S.eff = true), ?_, ?_⟩
  · refine ⟨_, rfl, rfl, _, rfl, ?_⟩
    refine ite2 (fun c => ?_) (fun c => ?_)
    · refine ⟨_, rfl, d, _, rfl, dget_of e0 e13, rfl, _, rfl, ?_⟩
      cases hE : S.eff with
      | false =>
        refine if_true_of (by rw [if_neg Bool.false_ne_true]; decide +kernel) ?_
        exact ⟨_, rfl, give ["give", sl] (.give sl) (Nat.le_of_ble_eq_true rfl) rfl (fun dep => by unfold okR; exact ⟨hE, hsl'⟩) rfl H2 k12 o2⟩
      | true =>
        refine if_false_of (by rw [if_pos rfl]; decide +kernel) ?_
        exact ⟨rfl, rfl, fun _ => rfl⟩
    · refine iteF ⟨rfl, rfl, fun e => absurd ?_ c⟩
      rw [e]; decide +kernel
  rintro σ' H' ⟨rfl, rfl, hk1⟩
  -- kind == 1: say
  refine ⟨_, rfl, rfl, _, rfl, ?_⟩
  refine ite2 (fun c => ?_) (fun _ => ?_)
  · have hk : kd = 1 := by
      have := of_decide_eq_true c
      injection this
    exact ⟨_, rfl, give ["say", sl] (.say sl) (Nat.le_of_ble_eq_true rfl) rfl (fun dep => by unfold okR; exact ⟨hk1 hk, hsl'⟩) rfl H' k12 o2⟩
  -- kind == 2 and shape["writes"]
  refine ⟨fun σ' H'' => H'' = H' ∧ σ' = [some (.ref st), some (.ref d), some (.int kd), some (.str sl), none], ?_, ?_⟩
  · refine ⟨_, rfl, rfl, _, rfl, ?_⟩
    refine ite2 (fun _ => ?_) (fun _ => iteF ⟨rfl, rfl⟩)
    refine ⟨_, rfl, d, _, rfl, dget_of e0 e15, _, rfl, ?_⟩
    refine ite2 (fun hw => ?_) (fun _ => ⟨rfl, rfl⟩)
    refine pick_t (key := "sources") rfl rfl e0 sh2.ne e10 e11 e12 sh2.o0 sh2.small.2.2.2 o2 fun so hso H3 k3 o3 => ⟨_, rfl, ?_⟩
    exact give ["write", so, sl] (.wr so sl) (Nat.le_of_ble_eq_true rfl) rfl (fun dep => by unfold okR; exact ⟨e17 hw, hso, hsl'⟩) rfl H3 (k12.trans k3) o3
  rintro σ' H'' ⟨rfl, rfl⟩
  -- cell
  refine pick_l (key := "cells") rfl rfl e0 sh2.ne e7 e8 e9 sh2.c0 sh2.small.2.2.1 o2 fun ce hce H3 k3 o3 => ?_
  have sh3 := sh2.keep k3
  obtain ⟨kvs3, aw3, asl3, ac3, aso3, pk3, wr3, f0, f00, f1, f2, f3, f4, f5, f6, f7, f8, f9, f10, f11, f12, f13, f14, f15, f16, f17⟩ := sh3.ex
  refine ⟨fun σ' H4 => H4 = H3 ∧ σ' = [some (.ref st), some (.ref d), some (.int kd), some (.str sl), some (.str ce)], ?_, ?_⟩
  · refine ⟨_, rfl, rfl, _, rfl, ?_⟩
    refine ite2 (fun _ => ?_) (fun _ => iteF ⟨rfl, rfl⟩)
    refine ⟨_, rfl, d, _, rfl, dget_of f0 f14, _, rfl, ?_⟩
    refine ite2 (fun hp => ?_) (fun _ => ⟨rfl, rfl⟩)
    exact ⟨_, rfl, _, rfl, give ["peek", ce, sl] (.rd true ce sl) (Nat.le_of_ble_eq_true rfl) rfl (fun dep => by unfold okR; exact ⟨fun _ => f16 hp, hce, hsl'⟩) rfl H3 (k12.trans k3) o3⟩
  rintro σ' H4 ⟨rfl, rfl⟩
  exact ⟨_, rfl, _, rfl, give ["read", ce, sl] (.rd false ce sl) (Nat.le_of_ble_eq_true rfl) rfl (fun dep => by unfold okR; exact ⟨(fun h => nomatch h), hce, hsl'⟩) rfl H4 (k12.trans k3) o3⟩
end
end K07
namespace K07
open PySem PySem.Spec PyProof.Rows L2 Td
def spRows (K : PySem.W.Frag) (n : Nat) : Sp := fun vs H Q _ => ∃ (st sc d : Addr) (S : Sc) (slots : List Str) (dep : Nat) (room : Int),
  vs = [.ref st, .ref d, .int (dep : Nat), .int room] ∧ StOk H st sc ∧ ShapeAt K st H d S slots ∧ dep ≤ 4 ∧ 6 ≤ dep + n ∧ 0 ≤ room ∧ room ≤ 100 ∧
  ∀ (v : V) (rs : List Td.Row) (H' : Hp), Keep st H H' → StOk H' st sc → okRs S dep rs → (cnts rs : Int) ≤ room → Tn K H' v (.tuple (rowsD rs)) → Q v H'
theorem cnts_one (r : Td.Row) : cnts [r] = Td.cnt r := by simp [cnts]
theorem rowsD_one (r : Td.Row) : rowsD [r] = [rowD r] := by simp [rowsD]
theorem cnts_len : ∀ rs : List Td.Row, rs.length ≤ cnts rs
  | [] => Nat.zero_le _
  | r :: rs => by
    have := cnts_len rs
    have := cnt_pos r
    simp only [cnts, List.length_cons]
    omega
section
variable {P : Program} {w : World} {K : PySem.W.Frag} {mg : Str → Option Value} {base : Heap}
theorem ok_rows1 (T : Tops w K mg) {n : Nat} (hn5 : 5 ≤ n)
    (G__law_draw : FnOk P w K mg base CX0 1 T.a__law_draw T.d__law_draw ["_law_state_here", "_law_many_here"] spDraw)
    (G__law_row : FnOk P w K mg base CX0 2 T.a__law_row T.d__law_row ["_law_state_here", "_law_shape"] (spRow K))
    (G__law_many : FnOk P w K mg base CX0 5 T.a__law_many T.d__law_many ["_law_rows_here"] (spMany K 5))
    (G__law_rows : FnOk P w K mg base CX0 n T.a__law_rows T.d__law_rows ["_law_state_here", "_law_shape", "_law_depth", "_law_room"] (spRows K (n - 5))) :
    FnOk P w K mg base CX0 (n + 1) T.a__law_rows T.d__law_rows ["_law_state_here", "_law_shape", "_law_depth", "_law_room"] (spRows K (n - 5 + 1)) := by
  refine T.F__law_rows.ok sc_law_rows (fun vs H Q E h => ?_) (fun cdv A outer s H vs Q E hr h => ?_)
  · obtain ⟨st, sc, d, S, slots, dep, room, rfl, _⟩ := h
    rfl
  obtain ⟨st, sc, d, S, slots, dep, room, rfl, ok, sh, hdep, hn, hr0, hr1, q⟩ := h
  refine ⟨_, (pss_cons (ps_set (i := 4) sc_law_rows.nd rfl (Or.inl rfl) (pe_lst pa_nil))
    (pss_cons (ps_set (i := 5) sc_law_rows.nd rfl (Or.inl rfl) (pv 3))
    (pss_cons (ps_for PassesOwn.never rfl (pi_range1 rfl T.z_range (pa_cons (pe_op op_add pe_int (pe_call G__law_draw (hr.mono (by omega)) rfl T.m__law_draw T.F__law_draw.kp T.b__law_draw .nil pass0 (pa_cons (pv 0) (pa_cons pe_int pa_nil)))) pa_nil)) (pg_name (i := 6) sc_law_rows.nd rfl (Or.inl rfl)) (pss_one (ps_ifC (PW.pt (pw_and (pt_cmpR op_ge (pv 5) pe_int (nomark _)) (pw_and (pt_cmpR op_lt (pv 2) pe_int (nomark _)) (pw_and1 (pt_cmpR op_eq (pe_call G__law_draw (hr.mono (by omega)) rfl T.m__law_draw T.F__law_draw.kp T.b__law_draw .nil pass0 (pa_cons (pv 0) (pa_cons pe_int pa_nil))) pe_int (nomark _)))))) (pss_cons (ps_set (i := 7) sc_law_rows.nd rfl (Or.inl rfl) (pe_ix ix_list (pe_dget (hu_of hr) (pv 1) pe_str (fun _ _ => rfl)) (pe_call G__law_draw (hr.mono (by omega)) rfl T.m__law_draw T.F__law_draw.kp T.b__law_draw .nil pass0 (pa_cons (pv 0) (pa_cons (pe_callB call_len rfl T.z_len PySem.boot_len (pa_cons (pe_dget (hu_of hr) (pv 1) pe_str (fun _ _ => rfl)) pa_nil)) pa_nil))) (fun _ _ => rfl)))
    (pss_cons (ps_set (i := 8) sc_law_rows.nd rfl (Or.inl rfl) (pe_ix ix_list (pe_dget (hu_of hr) (pv 1) pe_str (fun _ _ => rfl)) (pe_call G__law_draw (hr.mono (by omega)) rfl T.m__law_draw T.F__law_draw.kp T.b__law_draw .nil pass0 (pa_cons (pv 0) (pa_cons (pe_callB call_len rfl T.z_len PySem.boot_len (pa_cons (pe_dget (hu_of hr) (pv 1) pe_str (fun _ _ => rfl)) pa_nil)) pa_nil))) (fun _ _ => rfl)))
    (pss_cons (ps_set (i := 9) sc_law_rows.nd rfl (Or.inl rfl) (pe_ix ix_tup (pe_dget (hu_of hr) (pv 1) pe_str (fun _ _ => rfl)) (pe_call G__law_draw (hr.mono (by omega)) rfl T.m__law_draw T.F__law_draw.kp T.b__law_draw .nil pass0 (pa_cons (pv 0) (pa_cons (pe_callB call_len rfl T.z_len PySem.boot_len (pa_cons (pe_dget (hu_of hr) (pv 1) pe_str (fun _ _ => rfl)) pa_nil)) pa_nil))) (fun _ _ => rfl)))
    (pss_cons (ps_expr (pe_bm PySem.F.plainAttrs_list PySem.F.slot_list_append PySem.F.type_list_append mt_append (pv 4) (pa_cons (pe_tup (pa_cons pe_str (pa_cons (pv 8) (pa_cons (pv 7) pa_nil)))) pa_nil)))
    (pss_cons (ps_set (i := 10) sc_law_rows.nd rfl (Or.inl rfl) (pe_call G__law_rows (hr.mono (by omega)) rfl T.m__law_rows T.F__law_rows.kp T.b__law_rows .nil pass0 (pa_cons (pv 0) (pa_cons (pv 1) (pa_cons (pe_op op_add (pv 2) pe_int) (pa_cons (pe_op op_fdivW (pe_op op_sub (pv 5) pe_int) pe_int) pa_nil))))))
    (pss_cons (ps_set (i := 11) sc_law_rows.nd rfl (Or.inl rfl) (pe_call G__law_rows (hr.mono (by omega)) rfl T.m__law_rows T.F__law_rows.kp T.b__law_rows .nil pass0 (pa_cons (pv 0) (pa_cons (pv 1) (pa_cons (pe_op op_add (pv 2) pe_int) (pa_cons (pe_op op_fdivW (pe_op op_sub (pv 5) pe_int) pe_int) pa_nil))))))
    (pss_cons (ps_expr (pe_bm PySem.F.plainAttrs_list PySem.F.slot_list_append PySem.F.type_list_append mt_append (pv 4) (pa_cons (pe_tup (pa_cons pe_str (pa_cons (pv 7) (pa_cons (pv 9) (pa_cons (pv 10) (pa_cons (pv 11) pa_nil)))))) pa_nil)))
    (pss_one (ps_set (i := 5) sc_law_rows.nd rfl (Or.inl rfl) (pe_op op_sub (pe_op op_sub (pe_op op_sub (pv 5) pe_int) (pe_call G__law_many (hr.mono (by omega)) rfl T.m__law_many T.F__law_many.kp T.b__law_many .nil pass0 (pa_cons (pv 10) pa_nil))) (pe_call G__law_many (hr.mono (by omega)) rfl T.m__law_many T.F__law_many.kp T.b__law_many .nil pass0 (pa_cons (pv 11) pa_nil)))))))))))) (pss_one (ps_if (pt_cmpR op_ge (pv 5) pe_int (nomark _)) (pss_cons (ps_expr (pe_bm PySem.F.plainAttrs_list PySem.F.slot_list_append PySem.F.type_list_append mt_append (pv 4) (pa_cons (pe_call G__law_row (hr.mono (by omega)) rfl T.m__law_row T.F__law_row.kp T.b__law_row .nil pass0 (pa_cons (pv 0) (pa_cons (pv 1) pa_nil))) pa_nil)))
    (pss_one (ps_set (i := 5) sc_law_rows.nd rfl (Or.inl rfl) (pe_op op_sub (pv 5) pe_int)))) pss_nil)))))
    (pss_one (ps_ret (pe_callTy call_tuple_of rfl T.z_tuple (by decide +kernel) (pa_cons (pv 4) pa_nil))))))), ?_⟩
  refine ⟨Nat.zero_le _, fun p hp => ?_⟩
  obtain ⟨nps, npc⟩ := ok.ne hp
  have ok0 : StOk (upd H p (.lst [])) st sc := ok.new hp
  have kp0 : Keep st H (upd H p (.lst [])) := Keep.new hp
  refine ⟨_, rfl, _, rfl, st, sc, 4, rfl, by decide, by decide, ok0, fun tn H1 t0 t1 k1 o1 _ => ⟨_, _, rfl, rfl, _, rfl, by omega, by omega, ?_⟩⟩
  have kH1 : Keep st H H1 := kp0.trans k1
  have hpH1 : H1 p = some (.lst []) := k1 _ _ nps upd_same
  refine for_range (lo := 0) (n := (1 + tn).toNat) (fun i σ H' => ∃ (left : Int) (v6 v7 v8 v9 v10 v11 : Option V) (xs : List V) (rs : List Td.Row),
    σ = [some (.ref st), some (.ref d), some (.int (dep : Nat)), some (.int room), some (.ref p), some (.int left), v6, v7, v8, v9, v10, v11] ∧
    Keep st H H' ∧ StOk H' st sc ∧ H' p = some (.lst xs) ∧ TnAll K H' xs (rowsD rs) ∧ okRs S dep rs ∧ (cnts rs : Int) + left ≤ room ∧ 0 ≤ left)
    ⟨room, none, none, none, none, none, none, [], [], rfl, kH1, o1, hpH1, by unfold rowsD; exact .nil, by unfold okRs; trivial, by simp [cnts], hr0⟩ ?_ ?_
  · rintro i σ H2 hi ⟨left, v6, v7, v8, v9, v10, v11, xs, rs, rfl, kH, oH, hpH, hT, hok, hcnt, hl0⟩
    have hlen : ∀ ys : List V, TnAll K H2 ys (rowsD rs) → ys.length ≤ 100 := fun ys h => by
      have e := h.length
      rw [rowsD_length] at e
      have := cnts_len rs
      omega
    -- append a row's tuple
    have app : ∀ {H3 : Hp} {v : V} {r : Td.Row} {ys : List V} {ts : List Td.Row}, Keep st H H3 → StOk H3 st sc → H3 p = some (.lst ys) → TnAll K H3 ys (rowsD ts) → okRs S dep ts → Tn K H3 v (rowD r) → okR S dep r →
        Keep st H (upd H3 p (.lst (ys ++ [v]))) ∧ StOk (upd H3 p (.lst (ys ++ [v]))) st sc ∧ TnAll K (upd H3 p (.lst (ys ++ [v]))) (ys ++ [v]) (rowsD (ts ++ [r])) ∧ okRs S dep (ts ++ [r]) ∧ cnts (ts ++ [r]) = cnts ts + Td.cnt r ∧ TK H3 (upd H3 p (.lst (ys ++ [v]))) := by
      intro H3 v r ys ts k3 o3 hp3 t3 okt tv okr
      have tk : TK H3 (upd H3 p (.lst (ys ++ [v]))) := TK.upd (by rw [hp3]; trivial)
      refine ⟨k3.own (ok.ne hp |>.1 |> fun _ => hp), o3.other nps npc, ?_, okRs_append okt (okRs_one okr), ?_, tk⟩
      · rw [rowsD_append, rowsD_one]
        exact TnAll.append (TnAll.keep tk t3) (TnAll.one (Tn.keep tk tv))
      · rw [cnts_append, cnts_one]
    have chg : ∀ {H3 : Hp}, StOk H3 st sc → Chg (H3 st) := fun o => by obtain ⟨L, hL⟩ := o.at; rw [hL]; trivial
    refine ⟨fun H3 => Keep st H2 H3 ∧ StOk H3 st sc, ?_, ?_⟩
    · refine ⟨_, rfl, _, _, rfl, rfl, _, rfl, ?_⟩
      refine ite2 (fun c1 => ?_) (fun _ => iteF ⟨Keep.refl _ _, oH⟩)
      have c1' : 2 ≤ left := of_decide_eq_true c1
      refine ⟨_, rfl, _, _, rfl, rfl, _, rfl, ?_⟩
      refine ite2 (fun c2 => ?_) (fun _ => iteF ⟨Keep.refl _ _, oH⟩)
      have c2' : ((dep : Nat) : Int) < 4 := of_decide_eq_true c2
      refine ⟨_, rfl, st, sc, 3, rfl, by decide, by decide, oH, fun x3 H3 x30 x31 k3 o3 _ => ⟨rfl, _, rfl, ?_⟩⟩
      refine ite2 (fun _ => ?_) (fun _ => ⟨k3, o3⟩)
      have sh3 := sh.keep (kH.trans k3)
      obtain ⟨kvs, aw, asl, ac, aso, pk, wr, e0, e00, e1, e2, e3, e4, e5, e6, e7, e8, e9, e10, e11, e12, e13, e14, e15, e16, e17⟩ := sh3.ex
      refine pick_l (key := "slots") rfl rfl e0 sh3.ne e4 e5 e6 sh3.s0 sh3.small.2.1 o3 fun sl hsl H4 k4 o4 => ?_
      have hsl' := sh3.good sl hsl
      have sh4 := sh3.keep k4
      obtain ⟨kvs, aw, asl, ac, aso, pk, wr, e0, e00, e1, e2, e3, e4, e5, e6, e7, e8, e9, e10, e11, e12, e13, e14, e15, e16, e17⟩ := sh4.ex
      refine pick_l (key := "cells") rfl rfl e0 sh4.ne e7 e8 e9 sh4.c0 sh4.small.2.2.1 o4 fun ce hce H5 k5 o5 => ?_
      have sh5 := sh4.keep k5
      obtain ⟨kvs, aw, asl, ac, aso, pk, wr, e0, e00, e1, e2, e3, e4, e5, e6, e7, e8, e9, e10, e11, e12, e13, e14, e15, e16, e17⟩ := sh5.ex
      refine pick_t (key := "words") rfl rfl e0 sh5.ne e1 e2 e3 sh5.w0 sh5.small.1 o5 fun wd hwd H6 k6 o6 => ?_
      have k26 : Keep st H2 H6 := k3.trans (k4.trans (k5.trans k6))
      have hp6 := k26 _ _ nps hpH
      have cst : Chg (H2 st) := by obtain ⟨L, hL⟩ := oH.at; rw [hL]; trivial
      have tk26 : TK H2 H6 := TK.of_keep k26 cst
      have t6 := TnAll.keep tk26 hT
      have hx100 := hlen xs hT
      -- append ("read", cell, slot)
      refine ⟨_, rfl, .inl ⟨rfl, _, SqL.of hp6⟩, _, rfl, _, rfl, by show 3 ≤ sizeLine; decide, fun t1 ht1 => ?_⟩
      have npt : p ≠ t1 := fun e => by rw [e, ht1] at hp6; cases hp6
      have hp7 : upd H6 t1 (.tup [.str "read", .str ce, .str sl]) p = some (.lst xs) := by rw [upd_ne npt]; exact hp6
      refine ⟨p, _, _, rfl, rfl, hp7, small1000 (by omega), ?_⟩
      have k7 : Keep st H (upd H6 t1 (.tup [.str "read", .str ce, .str sl])) := (kH.trans k26).trans (Keep.new ht1)
      obtain ⟨k8, o8, t8, ok8, c8, tk8⟩ := app (r := .rd false ce sl) k7 (o6.new ht1) hp7
        (TnAll.keep (TK.of_same (Same.new ht1 _)) t6) hok (by unfold rowD; exact Tn.new (TnAll.strs ["read", ce, sl]) ht1) (by unfold okR; exact ⟨(fun h => nomatch h), hce, hsl'⟩)
      have h8p : upd (upd H6 t1 (.tup [.str "read", .str ce, .str sl])) p (.lst (xs ++ [.ref t1])) p = some (.lst (xs ++ [.ref t1])) := upd_same
      show tSeq _ _ _ _ (upd (upd H6 t1 (.tup [.str "read", .str ce, .str sl])) p (.lst (xs ++ [.ref t1])))
      generalize upd (upd H6 t1 (.tup [.str "read", .str ce, .str sl])) p (.lst (xs ++ [.ref t1])) = H8 at k8 o8 t8 h8p
      -- yes, no
      refine ⟨_, rfl, _, rfl, _, rfl, _, _, rfl, rfl, _, rfl, _, _, rfl, rfl, _, _, rfl, rfl, wide_div (b := 64) (by decide) (by decide) (by decide) (by decide), ?_⟩
      refine ⟨st, sc, d, S, slots, dep + 1, _, rfl, o8, sh.keep k8, by omega, by omega, by omega, by omega, fun vy y H9 k9 o9 oky cy ty => ?_⟩
      refine ⟨_, rfl, _, rfl, _, rfl, _, _, rfl, rfl, _, rfl, _, _, rfl, rfl, _, _, rfl, rfl, wide_div (b := 64) (by decide) (by decide) (by decide) (by decide), ?_⟩
      refine ⟨st, sc, d, S, slots, dep + 1, _, rfl, o9, sh.keep (k8.trans k9), by omega, by omega, by omega, by omega, fun vn y' H10 k10 o10 okn cn tn' => ?_⟩
      have h10p := k10 _ _ nps (k9 _ _ nps h8p)
      have tk810 : TK H8 H10 := (TK.of_keep k9 (chg o8)).trans (TK.of_keep k10 (chg o9))
      have ty10 := Tn.keep (TK.of_keep k10 (chg o9)) ty
      -- append ("if", slot, word, yes, no)
      refine ⟨_, rfl, .inl ⟨rfl, _, SqL.of h10p⟩, _, rfl, _, rfl, _, rfl, _, rfl, by show 5 ≤ sizeLine; decide, fun t2 ht2 => ?_⟩
      have npt2 : p ≠ t2 := fun e => by rw [e, ht2] at h10p; cases h10p
      have tup2 : Tn K (upd H10 t2 (.tup [.str "if", .str sl, .str wd, vy, vn])) (.ref t2) (rowD (.ite sl wd y y')) := by
        unfold rowD
        exact Tn.new (.cons (.str _) (.cons (.str _) (.cons (.str _) (.cons ty10 (.cons tn' .nil))))) ht2
      have h11p : upd H10 t2 (.tup [.str "if", .str sl, .str wd, vy, vn]) p = some (.lst (xs ++ [.ref t1])) := by rw [upd_ne npt2]; exact h10p
      refine ⟨p, _, _, rfl, rfl, h11p, small1000 (by rw [List.length_append]; show xs.length + 1 ≤ 1000; omega), ?_⟩
      have k11 : Keep st H (upd H10 t2 (.tup [.str "if", .str sl, .str wd, vy, vn])) := ((k8.trans k9).trans k10).trans (Keep.new ht2)
      have tk11 : TK H10 (upd H10 t2 (.tup [.str "if", .str sl, .str wd, vy, vn])) := TK.of_same (Same.new ht2 _)
      obtain ⟨k12, o12, t12, ok12, c12, tk12⟩ := app k11 (o10.new ht2) h11p (TnAll.keep (tk810.trans tk11) t8) ok8 tup2 (by unfold okR; exact ⟨by omega, hsl', hwd, oky, okn⟩)
      have ec : Td.cnt (.ite sl wd y y') = 1 + cnts y + cnts y' := by unfold Td.cnt; rfl
      have er : Td.cnt (.rd false ce sl) = 1 := rfl
      have ty12 := Tn.keep (tk11.trans tk12) ty10
      have tn12 := Tn.keep (tk11.trans tk12) tn'
      refine ⟨_, rfl, _, _, rfl, rfl, _, rfl, vy, y, S, dep + 1, rfl, ty12.dp, oky, by omega, by omega, _, _, rfl, rfl, _, rfl, vn, y', S, dep + 1, rfl, tn12.dp, okn, by omega, by omega, _, _, rfl, rfl, ?_⟩
      exact ⟨_, _, _, _, _, _, _, _, _, rfl, k12, o12, upd_same, t12, ok12, by rw [c12, c8, ec, er]; omega, by omega⟩
    · rintro H3 ⟨k3, o3⟩
      refine ⟨_, rfl, _, _, rfl, rfl, _, rfl, ?_⟩
      refine ite2 (fun c1 => ?_) (fun _ => ?_)
      · have c1' : 1 ≤ left := of_decide_eq_true c1
        have hp3 := k3 _ _ nps hpH
        have cst : Chg (H2 st) := by obtain ⟨L, hL⟩ := oH.at; rw [hL]; trivial
        have t3 := TnAll.keep (TK.of_keep k3 cst) hT
        have hx100 := hlen xs hT
        refine ⟨_, rfl, .inl ⟨rfl, _, SqL.of hp3⟩, _, rfl, _, rfl, st, sc, d, S, slots, rfl, o3, sh.keep (kH.trans k3), fun v r H4 k4 o4 okr hir tv => ?_⟩
        have hp4 := k4 _ _ nps hp3
        refine ⟨p, _, _, rfl, rfl, hp4, small1000 (by omega), ?_⟩
        refine ⟨_, rfl, _, _, rfl, rfl, ?_⟩
        have cst3 : Chg (H3 st) := by obtain ⟨L, hL⟩ := o3.at; rw [hL]; trivial
        obtain ⟨k5, o5, t5, ok5, c5, tk5⟩ := app ((kH.trans k3).trans k4) o4 hp4 (TnAll.keep (TK.of_keep k4 cst3) t3) hok tv (okr dep)
        have e1 := cnt_flat hir
        exact ⟨_, _, v7, v8, v9, v10, v11, _, _, rfl, k5, o5, upd_same, t5, ok5, by rw [c5, e1]; omega, by omega⟩
      · exact ⟨left, _, v7, v8, v9, v10, v11, xs, rs, rfl, kH.trans k3, o3, k3 _ _ nps hpH, TnAll.keep (TK.of_keep k3 (chg oH)) hT, hok, hcnt, hl0⟩
  · rintro σ H2 ⟨left, v6, v7, v8, v9, v10, v11, xs, rs, rfl, kH, oH, hpH, hT, hok, hcnt, hl0⟩
    refine ⟨_, rfl, p, _, rfl, .inl ⟨SqL.of hpH, fun t ht => ?_⟩⟩
    exact q _ rs _ (kH.trans (Keep.new ht)) (oH.new ht) hok (by omega) (Tn.new hT ht)
theorem ok_rows (T : Tops w K mg)
    (G1 : FnOk P w K mg base CX0 1 T.a__law_draw T.d__law_draw ["_law_state_here", "_law_many_here"] spDraw)
    (G2 : FnOk P w K mg base CX0 2 T.a__law_row T.d__law_row ["_law_state_here", "_law_shape"] (spRow K))
    (G3 : FnOk P w K mg base CX0 5 T.a__law_many T.d__law_many ["_law_rows_here"] (spMany K 5)) :
    ∀ k, FnOk P w K mg base CX0 (k + 5) T.a__law_rows T.d__law_rows ["_law_state_here", "_law_shape", "_law_depth", "_law_room"] (spRows K k)
  | 0 => by
    have no : ∀ vs H Q E, ¬ spRows K 0 vs H Q E := fun vs H Q E h => by
      obtain ⟨_, _, _, _, _, dep, _, _, _, _, h1, h2, _⟩ := h
      omega
    exact ⟨fun vs H Q E h => absurd h (no vs H Q E), fun A outer s H args us vs Q E _ _ _ _ h => absurd h (no vs H Q E)⟩
  | k + 1 => ok_rows1 T (n := k + 5) (by omega) G1 G2 G3 (ok_rows T G1 G2 G3 k)
end
end K07
namespace K07
open PySem PySem.Spec PyProof.Rows L2 Td
def spParts (K : PySem.W.Frag) : Sp := fun vs H Q _ => ∃ (st sc z : Addr) (a0 a1 a2 a3 a4 : Int) (pk wr : Bool),
  vs = [.ref st, .ref z, .bl pk, .bl wr] ∧ StOk H st sc ∧ SqL K H z [.int a0, .int a1, .int a2, .int a3, .int a4] ∧ z ≠ st ∧
  1 ≤ a0 ∧ a0 ≤ 3 ∧ 1 ≤ a1 ∧ a1 ≤ 4 ∧ 0 ≤ a2 ∧ a2 ≤ 6 ∧ 0 ≤ a3 ∧ a3 ≤ 4 ∧ 0 ≤ a4 ∧ a4 ≤ 15 ∧
  ∀ (v : V) (pp : PP) (H' : Hp), Keep st H H' → StOk H' st sc → pp.Ok (a4.toNat + 1) → Tn K H' v pp.data → Q v H'
/-- what stands while the bodies are drawn -/
structure PSt (K : PySem.W.Frag) (H0 H : Hp) (st sc aw pN p2 p4 pd pD : Addr) (ws srcs slots ns : List Str) (kd pk wr : V) (rd : List Str) (xs : List V) (ds : List (Str × List Td.Row)) : Prop where
  kp : Keep st H0 H
  ok : StOk H st sc
  wA : SqT K H aw (ws.map V.str)
  sA : SqT K H p4 (srcs.map V.str)
  nA : H pN = some (.lst (ns.map V.str))
  lA : H p2 = some (.lst (slots.map V.str))
  dA : ∃ pc, H pd = some (.dK (shp7 kd (.ref pc) (.ref p4) (.ref p2) (.ref aw) pk wr)) ∧ H pc = some (.lst (rd.map V.str)) ∧ pc ≠ st ∧ pc ≠ pD
  xA : H pD = some (.lst xs)
  tA : TnAll K H xs (ds.map Td.pairD)
structure PNe (H0 : Hp) (st sc aw pN p2 p4 pd pD : Addr) : Prop where
  naw : aw ≠ st
  npN : pN ≠ st
  np2 : p2 ≠ st
  np4 : p4 ≠ st
  npd : pd ≠ st
  npD : pD ≠ st
  ndc : pd ≠ sc
  nDc : pD ≠ sc
  d0 : H0 pd = none
  D0 : H0 pD = none
  nN : pN ≠ pD
  n2 : p2 ≠ pD
section
variable {K : PySem.W.Frag} {H0 H H' : Hp} {st sc aw pN p2 p4 pd pD : Addr} {ws srcs slots ns : List Str} {kd pk wr : V} {rd : List Str} {xs : List V} {ds : List (Str × List Td.Row)}
theorem StOk.chg (h : StOk H st sc) : Chg (H st) := by
  obtain ⟨L, hL⟩ := h.at
  rw [hL]; trivial
theorem PSt.keep (h : PSt K H0 H st sc aw pN p2 p4 pd pD ws srcs slots ns kd pk wr rd xs ds) (n : PNe H0 st sc aw pN p2 p4 pd pD) (k : Keep st H H') (o : StOk H' st sc) :
    PSt K H0 H' st sc aw pN p2 p4 pd pD ws srcs slots ns kd pk wr rd xs ds := by
  obtain ⟨pc, d1, d2, d3, d4⟩ := h.dA
  exact ⟨h.kp.trans k, o, SqT.keep k n.naw h.wA, SqT.keep k n.np4 h.sA, k _ _ n.npN h.nA, k _ _ n.np2 h.lA, ⟨pc, k _ _ n.npd d1, k _ _ d3 d2, d3, d4⟩, k _ _ n.npD h.xA,
    TnAll.keep (TK.of_keep k h.ok.chg) h.tA⟩
theorem PSt.new {p : Addr} {o : HO} (h : PSt K H0 H st sc aw pN p2 p4 pd pD ws srcs slots ns kd pk wr rd xs ds) (n : PNe H0 st sc aw pN p2 p4 pd pD) (hp : H p = none) :
    PSt K H0 (upd H p o) st sc aw pN p2 p4 pd pD ws srcs slots ns kd pk wr rd xs ds := h.keep n (Keep.new hp) (h.ok.new hp)
theorem PSt.shape {eff p r : Bool} (h : PSt K H0 H st sc aw pN p2 p4 pd pD ws srcs slots ns (.str (if eff then "effects" else "derived")) (.bl p) (.bl r) rd xs ds) (n : PNe H0 st sc aw pN p2 p4 pd pD)
    (hp : p = true → eff = true) (hr : r = true → eff = true) (w0 : ws ≠ []) (s0 : slots ≠ []) (c0 : rd ≠ []) (o0 : srcs ≠ []) (sm : ws.length ≤ 100 ∧ slots.length ≤ 100 ∧ rd.length ≤ 100 ∧ srcs.length ≤ 100) (g : ∀ z ∈ slots, isNm z = true) :
    ShapeAt K st H pd ⟨eff, ws, srcs, rd⟩ slots := by
  obtain ⟨pc, d1, d2, d3, d4⟩ := h.dA
  exact ⟨⟨_, aw, p2, pc, p4, p, r, d1, by show 7 ≤ 100; decide, get_words .., h.wA, n.naw, get_slots .., SqL.of h.lA, n.np2, get_cells .., SqL.of d2, d3, get_sources .., h.sA, n.np4, get_kind .., get_peeks .., get_writes .., hp, hr⟩, n.npd, w0, s0, c0, o0, sm, g⟩
theorem PSt.app {v : V} {q : Str × List Td.Row} (h : PSt K H0 H st sc aw pN p2 p4 pd pD ws srcs slots ns kd pk wr rd xs ds) (n : PNe H0 st sc aw pN p2 p4 pd pD) (tv : Tn K H v (Td.pairD q)) :
    PSt K H0 (upd H pD (.lst (xs ++ [v]))) st sc aw pN p2 p4 pd pD ws srcs slots ns kd pk wr rd (xs ++ [v]) (ds ++ [q]) := by
  obtain ⟨pc, d1, d2, d3, d4⟩ := h.dA
  have tk : TK H (upd H pD (.lst (xs ++ [v]))) := TK.upd (by rw [h.xA]; trivial)
  have ne1 : pd ≠ pD := ne_of d1 h.xA (by intro e; cases e)
  refine ⟨h.kp.own n.D0, h.ok.other n.npD n.nDc, SqT.tk tk h.wA, SqT.tk tk h.sA, by rw [upd_ne n.nN]; exact h.nA, by rw [upd_ne n.n2]; exact h.lA,
    ⟨pc, by rw [upd_ne ne1]; exact d1, by rw [upd_ne d4]; exact d2, d3, d4⟩, upd_same, ?_⟩
  rw [List.map_append]
  exact TnAll.append (TnAll.keep tk h.tA) (TnAll.one (Tn.keep tk tv))
/-- the dict is changed -/
theorem PSt.put {kd' pk' wr' : V} {rd' : List Str} {pc' : Addr} (h : PSt K H0 H st sc aw pN p2 p4 pd pD ws srcs slots ns kd pk wr rd xs ds) (n : PNe H0 st sc aw pN p2 p4 pd pD)
    (hc : H pc' = some (.lst (rd'.map V.str))) (h1 : pc' ≠ st) (h2 : pc' ≠ pD) :
    PSt K H0 (upd H pd (.dK (shp7 kd' (.ref pc') (.ref p4) (.ref p2) (.ref aw) pk' wr'))) st sc aw pN p2 p4 pd pD ws srcs slots ns kd' pk' wr' rd' xs ds := by
  obtain ⟨pc, d1, d2, d3, d4⟩ := h.dA
  have tk : TK H (upd H pd (.dK (shp7 kd' (.ref pc') (.ref p4) (.ref p2) (.ref aw) pk' wr'))) := TK.upd (by rw [d1]; trivial)
  exact ⟨h.kp.own n.d0, h.ok.other n.npd n.ndc, SqT.tk tk h.wA, SqT.tk tk h.sA, by rw [upd_ne (ne_of h.nA d1 (by intro e; cases e))]; exact h.nA, by rw [upd_ne (ne_of h.lA d1 (by intro e; cases e))]; exact h.lA,
    ⟨pc', upd_same, by rw [upd_ne (ne_of hc d1 (by intro e; cases e))]; exact hc, h1, h2⟩, by rw [upd_ne (ne_of h.xA d1 (by intro e; cases e))]; exact h.xA, TnAll.keep tk h.tA⟩
end
section
variable {P : Program} {w : World} {K : PySem.W.Frag} {mg : Str → Option Value} {base : Heap}
theorem ok_parts (T : Tops w K mg)
    (G__law_draw : FnOk P w K mg base CX0 1 T.a__law_draw T.d__law_draw ["_law_state_here", "_law_many_here"] spDraw)
    (G__law_names : FnOk P w K mg base CX0 2 T.a__law_names T.d__law_names ["_law_state_here", "_law_many_here"] spNames)
    (G__law_rows : FnOk P w K mg base CX0 10 T.a__law_rows T.d__law_rows ["_law_state_here", "_law_shape", "_law_depth", "_law_room"] (spRows K 5)) :
    FnOk P w K mg base CX0 11 T.a__law_parts T.d__law_parts ["_law_state_here", "_law_sizes", "_law_peeks", "_law_writes"] (spParts K) := by
  refine T.F__law_parts.ok sc_law_parts (fun vs H Q E h => ?_) (fun cdv A outer s H vs Q E hr h => ?_)
  · obtain ⟨st, sc, z, a0, a1, a2, a3, a4, pk, wr, rfl, _⟩ := h
    rfl
  obtain ⟨st, sc, z, a0, a1, a2, a3, a4, pk, wr, rfl, ok, hz, nz, a00, a01, a10, a11, a20, a21, a30, a31, a40, a41, q⟩ := h
  refine ⟨_, (pss_cons (ps_set (i := 4) sc_law_parts.nd rfl (Or.inl rfl) (pe_op op_add pe_int (pe_call G__law_draw (hr.mono (by omega)) rfl T.m__law_draw T.F__law_draw.kp T.b__law_draw .nil pass0 (pa_cons (pv 0) (pa_cons (pe_ix ix_list (pv 1) pe_int (fun _ _ => rfl)) pa_nil)))))
    (pss_cons (ps_set (i := 5) sc_law_parts.nd rfl (Or.inl rfl) (pe_op op_add pe_int (pe_call G__law_draw (hr.mono (by omega)) rfl T.m__law_draw T.F__law_draw.kp T.b__law_draw .nil pass0 (pa_cons (pv 0) (pa_cons (pe_ix ix_list (pv 1) pe_int (fun _ _ => rfl)) pa_nil)))))
    (pss_cons (ps_set (i := 6) sc_law_parts.nd rfl (Or.inl rfl) (pe_callB (call_max2 rfl) rfl T.z_max (by decide +kernel) (pa_cons (pe_call G__law_draw (hr.mono (by omega)) rfl T.m__law_draw T.F__law_draw.kp T.b__law_draw .nil pass0 (pa_cons (pv 0) (pa_cons (pe_op op_add (pe_ix ix_list (pv 1) pe_int (fun _ _ => rfl)) pe_int) pa_nil))) (pa_cons (pe_call G__law_draw (hr.mono (by omega)) rfl T.m__law_draw T.F__law_draw.kp T.b__law_draw .nil pass0 (pa_cons (pv 0) (pa_cons (pe_op op_add (pe_ix ix_list (pv 1) pe_int (fun _ _ => rfl)) pe_int) pa_nil))) pa_nil))))
    (pss_cons (ps_set (i := 7) sc_law_parts.nd rfl (Or.inl rfl) (pe_callB (call_max2 rfl) rfl T.z_max (by decide +kernel) (pa_cons (pe_call G__law_draw (hr.mono (by omega)) rfl T.m__law_draw T.F__law_draw.kp T.b__law_draw .nil pass0 (pa_cons (pv 0) (pa_cons (pe_op op_add (pe_ix ix_list (pv 1) pe_int (fun _ _ => rfl)) pe_int) pa_nil))) (pa_cons (pe_call G__law_draw (hr.mono (by omega)) rfl T.m__law_draw T.F__law_draw.kp T.b__law_draw .nil pass0 (pa_cons (pv 0) (pa_cons (pe_op op_add (pe_ix ix_list (pv 1) pe_int (fun _ _ => rfl)) pe_int) pa_nil))) pa_nil))))
    (pss_cons (ps_set (i := 8) sc_law_parts.nd rfl (Or.inl rfl) (pe_callTy call_tuple_of rfl T.z_tuple (by decide +kernel) (pa_cons (pe_call G__law_names (hr.mono (by omega)) rfl T.m__law_names T.F__law_names.kp T.b__law_names .nil pass0 (pa_cons (pv 0) (pa_cons (pv 4) pa_nil))) pa_nil)))
    (pss_cons (ps_set (i := 9) sc_law_parts.nd rfl (Or.inl rfl) (pe_call G__law_names (hr.mono (by omega)) rfl T.m__law_names T.F__law_names.kp T.b__law_names .nil pass0 (pa_cons (pv 0) (pa_cons (pe_op op_add (pe_op op_add (pv 5) (pv 6)) (pv 7)) pa_nil))))
    (C8.pss_cut (ps_if (PW.pt (pw_and (pt_cmpR op_eq (pe_call G__law_draw (hr.mono (by omega)) rfl T.m__law_draw T.F__law_draw.kp T.b__law_draw .nil pass0 (pa_cons (pv 0) (pa_cons pe_int pa_nil))) pe_int (nomark _)) (pw_and1 (pt_cmpR op_notIn_seq (pe_ix ix_list (pv 9) pe_int (fun _ _ => rfl)) (pv 8) (by rfl))))) (pss_one (ps_set (i := 8) sc_law_parts.nd rfl (Or.inl rfl) (pe_op op_catA (pe_slice sl_tupA (pv 8) (po_some pe_int) po_none) (pe_tup (pa_cons (pe_ix ix_list (pv 9) pe_int (fun _ _ => rfl)) pa_nil))))) pss_nil)
    (pss_cons (ps_set (i := 10) sc_law_parts.nd rfl (Or.inl rfl) (pe_op op_cat (pe_call G__law_names (hr.mono (by omega)) rfl T.m__law_names T.F__law_names.kp T.b__law_names .nil pass0 (pa_cons (pv 0) (pa_cons pe_int pa_nil))) (pe_lst (pa_cons (pe_ix ix_list (pv 9) pe_int (fun _ _ => rfl)) pa_nil))))
    (pss_cons (ps_set (i := 11) sc_law_parts.nd rfl (Or.inl rfl) (pe_callTy call_tuple_of rfl T.z_tuple (by decide +kernel) (pa_cons (pe_slice sl_list (pv 9) po_none (po_some (pv 5))) pa_nil)))
    (pss_cons (ps_set (i := 12) sc_law_parts.nd rfl (Or.inl rfl) (pe_disp (pps_cons pe_str pe_str (pps_cons pe_str (pe_callTy call_list_of rfl T.z_list (by decide +kernel) (pa_cons (pv 11) pa_nil)) (pps_cons pe_str (pv 11) (pps_cons pe_str (pv 10) (pps_cons pe_str (pv 8) pps_nil))))) (by rfl) (by rfl) (fun z => by cases z) (by decide)))
    (pss_cons (ps_dput (hu_of hr) (pv 12) pe_str pe_bl rfl)
    (pss_cons (ps_dput (hu_of hr) (pv 12) pe_str pe_bl rfl)
    (pss_cons (ps_set (i := 13) sc_law_parts.nd rfl (Or.inl rfl) (pe_lst pa_nil))
    (pss_cons (ps_for PassesOwn.never rfl (pi_range1 rfl T.z_range (pa_cons (pv 6) pa_nil)) (pg_name (i := 14) sc_law_parts.nd rfl (Or.inl rfl)) (pss_cons (ps_set (i := 15) sc_law_parts.nd rfl (Or.inl rfl) (pe_ix ix_list (pv 9) (pe_op op_add (pv 5) (pv 14)) (fun _ _ => rfl)))
    (pss_cons (ps_set (i := 16) sc_law_parts.nd rfl (Or.inl rfl) (pe_call G__law_rows (hr.mono (by omega)) rfl T.m__law_rows T.F__law_rows.kp T.b__law_rows .nil pass0 (pa_cons (pv 0) (pa_cons (pv 12) (pa_cons pe_int (pa_cons (pe_ix ix_list (pv 1) pe_int (fun _ _ => rfl)) pa_nil))))))
    (C8.pss_cut (ps_if (pt_cmpR op_gt (pe_call G__law_draw (hr.mono (by omega)) rfl T.m__law_draw T.F__law_draw.kp T.b__law_draw .nil pass0 (pa_cons (pv 0) (pa_cons pe_int pa_nil))) pe_int (nomark _)) (pss_one (ps_set (i := 16) sc_law_parts.nd rfl (Or.inl rfl) (pe_op op_catA (pv 16) (pe_tup (pa_cons (pe_tup (pa_cons pe_str (pa_cons (pe_ix ix_list (pv 10) (pe_call G__law_draw (hr.mono (by omega)) rfl T.m__law_draw T.F__law_draw.kp T.b__law_draw .nil pass0 (pa_cons (pv 0) (pa_cons pe_int pa_nil))) (fun _ _ => rfl)) pa_nil))) pa_nil))))) pss_nil)
    (pss_cons (ps_expr (pe_bm PySem.F.plainAttrs_list PySem.F.slot_list_append PySem.F.type_list_append mt_append (pv 13) (pa_cons (pe_tup (pa_cons (pv 15) (pa_cons (pv 16) pa_nil))) pa_nil)))
    (pss_one (ps_dput (hu_of hr) (pv 12) pe_str (pe_op op_cat (pe_dget (hu_of hr) (pv 12) pe_str (fun _ _ => rfl)) (pe_lst (pa_cons (pv 15) pa_nil))) rfl)))))))
    (pss_cons (ps_dput (hu_of hr) (pv 12) pe_str pe_str rfl)
    (pss_cons (ps_dput (hu_of hr) (pv 12) pe_str (pv 2) rfl)
    (pss_cons (ps_dput (hu_of hr) (pv 12) pe_str (pv 3) rfl)
    (pss_cons (ps_set (i := 17) sc_law_parts.nd rfl (Or.inl rfl) (pe_lst pa_nil))
    (pss_cons (ps_for PassesOwn.never rfl (pi_range1 rfl T.z_range (pa_cons (pv 7) pa_nil)) (pg_name (i := 14) sc_law_parts.nd rfl (Or.inl rfl)) (pss_cons (ps_set (i := 16) sc_law_parts.nd rfl (Or.inl rfl) (pe_call G__law_rows (hr.mono (by omega)) rfl T.m__law_rows T.F__law_rows.kp T.b__law_rows .nil pass0 (pa_cons (pv 0) (pa_cons (pv 12) (pa_cons pe_int (pa_cons (pe_ix ix_list (pv 1) pe_int (fun _ _ => rfl)) pa_nil))))))
    (C8.pss_cut (ps_if (pt_cmpR op_gt (pe_call G__law_draw (hr.mono (by omega)) rfl T.m__law_draw T.F__law_draw.kp T.b__law_draw .nil pass0 (pa_cons (pv 0) (pa_cons pe_int pa_nil))) pe_int (nomark _)) (pss_one (ps_set (i := 16) sc_law_parts.nd rfl (Or.inl rfl) (pe_op op_catA (pv 16) (pe_tup (pa_cons (pe_tup (pa_cons pe_str (pa_cons (pe_ix ix_list (pv 10) (pe_call G__law_draw (hr.mono (by omega)) rfl T.m__law_draw T.F__law_draw.kp T.b__law_draw .nil pass0 (pa_cons (pv 0) (pa_cons pe_int pa_nil))) (fun _ _ => rfl)) pa_nil))) pa_nil))))) pss_nil)
    (pss_one (ps_expr (pe_bm PySem.F.plainAttrs_list PySem.F.slot_list_append PySem.F.type_list_append mt_append (pv 17) (pa_cons (pe_tup (pa_cons (pe_ix ix_list (pv 9) (pe_op op_add (pe_op op_add (pv 5) (pv 6)) (pv 14)) (fun _ _ => rfl)) (pa_cons (pv 16) pa_nil))) pa_nil)))))))
    (pss_one (ps_ret (pe_tup (pa_cons (pv 8) (pa_cons (pv 11) (pa_cons (pe_callTy call_tuple_of rfl T.z_tuple (by decide +kernel) (pa_cons (pv 13) pa_nil)) (pa_cons (pe_callTy call_tuple_of rfl T.z_tuple (by decide +kernel) (pa_cons (pv 17) pa_nil)) pa_nil)))))))))))))))))))))))))), ?_⟩
  -- the four numbers
  refine ⟨_, rfl, _, rfl, z, _, 0, _, rfl, rfl, hz, rfl, st, sc, _, rfl, by omega, by omega, ok, fun mw H1 mw0 mw1 k1 o1 _ => ⟨_, _, rfl, rfl, ?_⟩⟩
  have z1 := SqL.keep k1 nz hz
  refine ⟨_, rfl, _, rfl, z, _, 1, _, rfl, rfl, z1, rfl, st, sc, _, rfl, by omega, by omega, o1, fun ms H2 ms0 ms1 k2 o2 _ => ⟨_, _, rfl, rfl, ?_⟩⟩
  have z2 := SqL.keep k2 nz z1
  refine ⟨_, rfl, _, rfl, z, _, 2, _, rfl, rfl, z2, rfl, _, _, rfl, rfl, st, sc, _, rfl, by omega, by omega, o2, fun d1 H3 d10 d11 k3 o3 _ => ?_⟩
  have z3 := SqL.keep k3 nz z2
  refine ⟨_, rfl, _, rfl, z, _, 2, _, rfl, rfl, z3, rfl, _, _, rfl, rfl, st, sc, _, rfl, by omega, by omega, o3, fun d2 H4 d20 d21 k4 o4 _ => ⟨_, _, rfl, ?_⟩⟩
  have z4 := SqL.keep k4 nz z3
  have md0 : 0 ≤ (if d2 > d1 then d2 else d1) ∧ (if d2 > d1 then d2 else d1) ≤ a2 := by split <;> omega
  generalize (if d2 > d1 then d2 else d1) = md at md0
  refine ⟨_, rfl, _, rfl, z, _, 3, _, rfl, rfl, z4, rfl, _, _, rfl, rfl, st, sc, _, rfl, by omega, by omega, o4, fun e1 H5 e10 e11 k5 o5 _ => ?_⟩
  have z5 := SqL.keep k5 nz z4
  refine ⟨_, rfl, _, rfl, z, _, 3, _, rfl, rfl, z5, rfl, _, _, rfl, rfl, st, sc, _, rfl, by omega, by omega, o5, fun e2 H6 e20 e21 k6 o6 _ => ⟨_, _, rfl, ?_⟩⟩
  have z6 := SqL.keep k6 nz z5
  have me0 : 0 ≤ (if e2 > e1 then e2 else e1) ∧ (if e2 > e1 then e2 else e1) ≤ a3 := by split <;> omega
  generalize (if e2 > e1 then e2 else e1) = me at me0
  have k06 : Keep st H H6 := k1.trans (k2.trans (k3.trans (k4.trans (k5.trans k6))))
  -- words, names
  refine ⟨_, rfl, _, rfl, st, sc, _, rfl, by omega, by omega, o6, fun pw ws H7 k7 o7 pw0 pws pwc pwL wl wN => ⟨pw, _, rfl, .inl ⟨SqL.of pwL, fun aw haw => ?_⟩⟩⟩
  have o8 : StOk (upd H7 aw (.tup (ws.map V.str))) st sc := o7.new haw
  have k8 : Keep st H (upd H7 aw (.tup (ws.map V.str))) := k06.trans (k7.trans (Keep.new haw))
  have w8 : SqT K (upd H7 aw (.tup (ws.map V.str))) aw (ws.map V.str) := SqT.of upd_same
  obtain ⟨naw, nawc⟩ := o7.ne haw
  show tSeq _ _ _ _ (upd H7 aw (.tup (ws.map V.str)))
  generalize upd H7 aw (.tup (ws.map V.str)) = H8 at o8 k8 w8
  refine ⟨_, rfl, _, rfl, _, rfl, _, _, rfl, rfl, _, rfl, _, _, rfl, rfl, st, sc, _, rfl, by omega, by omega, o8, fun pN ns H9 k9 o9 pN0 pNs pNc pNL nl nN => ?_⟩
  have k09 := k8.trans k9
  have w9 := SqT.keep k9 naw w8
  have z9 := SqL.keep k09 nz hz
  have hn0 : 0 < ns.length := by omega
  have n0at : atI (ns.map V.str) 0 = some (V.str ns[0]) := atI_nat (j := 0) (by rw [List.getElem?_map, List.getElem?_eq_getElem hn0]; rfl)
  -- the words may get the first name
  refine ⟨fun σ' H' => ∃ (aw : Addr) (ws : List Str), σ' = [some (.ref st), some (.ref z), some (.bl pk), some (.bl wr), some (.int (2 + mw)), some (.int (1 + ms)), some (.int md), some (.int me), some (.ref aw), some (.ref pN), none, none, none, none, none, none, none, none] ∧
    Keep st H H' ∧ StOk H' st sc ∧ SqT K H' aw (ws.map V.str) ∧ aw ≠ st ∧ H' pN = some (.lst (ns.map V.str)) ∧ (ws.length : Int) = 2 + mw ∧ Names ws, ?_, ?_⟩
  · refine ⟨_, rfl, st, sc, 4, rfl, by decide, by decide, o9, fun x H10 x0 x1 k10 o10 _ => ⟨rfl, _, rfl, ?_⟩⟩
    have w10 := SqT.keep k10 naw w9
    have L10 := k10 _ _ pNs pNL
    refine ite2 (fun _ => ?_) (fun _ => ⟨aw, ws, rfl, k09.trans k10, o10, w10, naw, L10, wl, wN⟩)
    refine ⟨_, rfl, pN, _, 0, _, rfl, rfl, SqL.of L10, n0at, _, rfl, aw, _, rfl, .inr w10, rfl, ?_, _, rfl, ?_⟩
    · exact L2.flat_strs ws
    refine ite2 (fun c => ?_) (fun _ => ⟨aw, ws, rfl, k09.trans k10, o10, w10, naw, L10, wl, wN⟩)
    have hnot : ns[0] ∉ ws := by
      have c' : (!inV (V.str ns[0]) (ws.map V.str)) = true := c
      rw [inV_strs] at c'
      simpa using c'
    have wsne : ws.map V.str ≠ [] := by
      intro e
      have := congrArg List.length e
      rw [List.length_map, List.length_nil] at this
      omega
    refine ⟨_, rfl, 1, rfl, aw, _, rfl, w10, fun hh => absurd hh (not_whole1 wsne none), fun _ p1 hp1 => ?_⟩
    have pN1 : upd H10 p1 (.tup (cutV (ws.map V.str) (some 1) none)) pN = some (.lst (ns.map V.str)) := by rw [upd_ne (ne_of_none L10 hp1)]; exact L10
    refine ⟨_, rfl, pN, _, 0, _, rfl, rfl, SqL.of pN1, n0at, by show 1 ≤ sizeLine; decide, fun p2 hp2 => ?_⟩
    have n12 : p1 ≠ p2 := fun e => by rw [← e, upd_same] at hp2; cases hp2
    have hp20 : H10 p2 = none := by rw [upd_ne (Ne.symm n12)] at hp2; exact hp2
    have drop_ne : cutV (ws.map V.str) (some 1) none ≠ [] := by
      rw [cut_from1]
      intro e
      have := congrArg List.length e
      rw [List.length_drop, List.length_map, List.length_nil] at this
      omega
    refine ⟨p1, p2, _, _, rfl, rfl, SqT.of (by rw [upd_ne n12, upd_same]), SqT.of upd_same, Nat.le_of_lt (small1000 ?_), fun e => absurd e drop_ne, fun _ e => (by cases e), fun _ _ p3 hp3 => ?_⟩
    · rw [cut_from1, List.length_drop, List.length_map]; show ws.length - 1 + 1 ≤ 1000; omega
    have k13 : Keep st H (upd (upd (upd H10 p1 (.tup (cutV (ws.map V.str) (some 1) none))) p2 (.tup [V.str ns[0]])) p3 (.tup (cutV (ws.map V.str) (some 1) none ++ [V.str ns[0]]))) :=
      (((k09.trans k10).trans (Keep.new hp1)).trans (Keep.new hp2)).trans (Keep.new hp3)
    have o13 := ((o10.new hp1 (o := .tup (cutV (ws.map V.str) (some 1) none))).new hp2 (o := .tup [V.str ns[0]])).new hp3 (o := .tup (cutV (ws.map V.str) (some 1) none ++ [V.str ns[0]]))
    refine ⟨p3, ws.drop 1 ++ [ns[0]], rfl, k13, o13, ?_, (((o10.new hp1).new hp2).ne hp3).1, ?_, ?_, wN.turn (nN.good _ (List.getElem_mem hn0)) hnot⟩
    · rw [cut_from1]
      have e : (ws.drop 1 ++ [ns[0]]).map V.str = (ws.map V.str).drop 1 ++ [V.str ns[0]] := by rw [List.map_append, List.map_drop]; rfl
      rw [e]
      exact SqT.of upd_same
    · rw [upd_ne (ne_of_none (by rw [upd_ne (ne_of_none pN1 hp2)]; exact pN1) hp3), upd_ne (ne_of_none pN1 hp2)]; exact pN1
    · rw [List.length_append, List.length_drop]; show ((ws.length - 1 + 1 : Nat) : Int) = 2 + mw; omega
  · clear wl wN w9 w8 naw nawc haw aw ws pwL pws pw0 pwc
    rintro σ' H11 ⟨aw, ws, rfl, k11, o11, w11, naw, L11, wl, wN⟩
    -- slots
    refine ⟨_, rfl, st, sc, _, rfl, by decide, by decide, o11, fun pS ss H12 k12 o12 pS0 pSs pSc pSL sl sN => ?_⟩
    have L12 := k12 _ _ pNs L11
    refine ⟨_, rfl, pN, _, 0, _, rfl, rfl, SqL.of L12, n0at, by show 1 ≤ sizeLine; decide, fun p1 hp1 => ?_⟩
    refine ⟨pS, p1, _, _, rfl, rfl, by rw [upd_ne (ne_of_none pSL hp1)]; exact pSL, upd_same, Nat.le_of_lt (small1000 (by rw [List.length_map]; show ss.length + 1 ≤ 1000; omega)), fun p2 hp2 => ?_⟩
    have k13 : Keep st H11 (upd (upd H12 p1 (.lst [V.str ns[0]])) p2 (.lst (ss.map V.str ++ [V.str ns[0]]))) := k12.trans ((Keep.new hp1).trans (Keep.new hp2))
    have o13 := (o12.new hp1 (o := .lst [V.str ns[0]])).new hp2 (o := .lst (ss.map V.str ++ [V.str ns[0]]))
    obtain ⟨np2, np2c⟩ := (o12.new hp1 (o := .lst [V.str ns[0]])).ne hp2
    have es : ss.map V.str ++ [V.str ns[0]] = (ss ++ [ns[0]]).map V.str := by rw [List.map_append]; rfl
    have S13 : upd (upd H12 p1 (.lst [V.str ns[0]])) p2 (.lst (ss.map V.str ++ [V.str ns[0]])) p2 = some (.lst ((ss ++ [ns[0]]).map V.str)) := by rw [upd_same, es]
    have slg : ∀ y ∈ ss ++ [ns[0]], isNm y = true := fun y hy => by
      rcases List.mem_append.mp hy with h | h
      · exact sN.good y h
      · rw [List.mem_singleton.mp h]; exact nN.good _ (List.getElem_mem hn0)
    have sln : (ss ++ [ns[0]]).length = 3 := by rw [List.length_append]; show ss.length + 1 = 3; omega
    show tSeq _ _ _ _ (upd (upd H12 p1 (.lst [V.str ns[0]])) p2 (.lst (ss.map V.str ++ [V.str ns[0]])))
    generalize upd (upd H12 p1 (.lst [V.str ns[0]])) p2 (.lst (ss.map V.str ++ [V.str ns[0]])) = H13 at k13 o13 S13
    generalize ss ++ [ns[0]] = slots at S13 slg sln
    -- sources
    have L13 := k13 _ _ pNs L11
    have msn : ((1 + ms).toNat : Nat) ≤ ns.length := by omega
    have ecut : cutV (ns.map V.str) none (some (1 + ms)) = (ns.take (1 + ms).toNat).map V.str := by
      have := cut_to (ns.map V.str) (1 + ms).toNat (by rw [List.length_map]; omega)
      rw [show (((1 + ms).toNat : Nat) : Int) = 1 + ms by omega] at this
      rw [this, List.map_take]
    refine ⟨_, rfl, _, rfl, _, rfl, pN, _, rfl, SqL.of L13, fun p3 hp3 => ⟨p3, _, rfl, .inl ⟨SqL.of upd_same, fun p4 hp4 => ?_⟩⟩⟩
    rw [ecut] at hp4 ⊢
    have k14 : Keep st H13 (upd (upd H13 p3 (.lst ((ns.take (1 + ms).toNat).map V.str))) p4 (.tup ((ns.take (1 + ms).toNat).map V.str))) := (Keep.new hp3).trans (Keep.new hp4)
    have o14 := (o13.new hp3 (o := .lst ((ns.take (1 + ms).toNat).map V.str))).new hp4 (o := .tup ((ns.take (1 + ms).toNat).map V.str))
    have S14 : SqT K (upd (upd H13 p3 (.lst ((ns.take (1 + ms).toNat).map V.str))) p4 (.tup ((ns.take (1 + ms).toNat).map V.str))) p4 ((ns.take (1 + ms).toNat).map V.str) := SqT.of upd_same
    obtain ⟨np4, np4c⟩ := (o13.new hp3 (o := .lst ((ns.take (1 + ms).toNat).map V.str))).ne hp4
    have srl : (ns.take (1 + ms).toNat).length = (1 + ms).toNat := by rw [List.length_take]; omega
    show tSeq _ _ _ _ (upd (upd H13 p3 (.lst ((ns.take (1 + ms).toNat).map V.str))) p4 (.tup ((ns.take (1 + ms).toNat).map V.str)))
    generalize upd (upd H13 p3 (.lst ((ns.take (1 + ms).toNat).map V.str))) p4 (.tup ((ns.take (1 + ms).toNat).map V.str)) = H14 at k14 o14 S14
    -- the shape
    refine fun pd hpd => ?_
    obtain ⟨npd, npdc⟩ := o14.ne hpd
    refine ⟨_, rfl, p4, _, rfl, .inr (SqT.same (Same.new hpd _) S14), fun p5 hp5 => ?_⟩
    have np5 : p5 ≠ pd := fun e => by rw [e, upd_same] at hp5; cases hp5
    have hp50 : H14 p5 = none := by rw [upd_ne np5] at hp5; exact hp5
    obtain ⟨np5s, np5c⟩ := o14.ne hp50
    refine ⟨_, rfl, _, rfl, _, rfl, by rw [upd_ne (Ne.symm np5), upd_same], shp (.str "derived") (.ref p5) (.ref p4) (.ref p2) (.ref aw), rfl, by show 5 ≤ 15; decide, ?_⟩
    rw [shp_merge]
    refine ⟨_, rfl, pd, _, rfl, DPut.k (k := Sum.inr "peeks") upd_same (small1000 (by show 5 ≤ 1000; decide)), ?_⟩
    rw [shp_peeks, upd_upd]
    refine ⟨_, rfl, pd, _, rfl, DPut.k (k := Sum.inr "writes") upd_same (small1000 (by show 6 ≤ 1000; decide)), ?_⟩
    rw [shp_writes, upd_upd]
    -- derived = []
    refine ⟨Nat.zero_le _, fun pD hpD => ?_⟩
    generalize hse : ns.take (1 + ms).toNat = srcs at S14 srl hpD hp5 ⊢
    have k1114 := k13.trans k14
    have k1014 := k11.trans k1114
    have d0 : H pd = none := k1014.free npd hpd
    have k15 : Keep st H14 (upd (upd (upd H14 pd (.dK [])) p5 (.lst (srcs.map V.str))) pd (.dK (shp7 (.str "derived") (.ref p5) (.ref p4) (.ref p2) (.ref aw) (.bl false) (.bl false)))) :=
      ((Keep.new hpd).trans (Keep.new hp5)).own hpd
    have o15 : StOk (upd (upd (upd H14 pd (.dK [])) p5 (.lst (srcs.map V.str))) pd (.dK (shp7 (.str "derived") (.ref p5) (.ref p4) (.ref p2) (.ref aw) (.bl false) (.bl false)))) st sc :=
      ((o14.new hpd).new hp5).other npd npdc
    have dd15 : upd (upd (upd H14 pd (.dK [])) p5 (.lst (srcs.map V.str))) pd (.dK (shp7 (.str "derived") (.ref p5) (.ref p4) (.ref p2) (.ref aw) (.bl false) (.bl false))) pd = some (.dK (shp7 (.str "derived") (.ref p5) (.ref p4) (.ref p2) (.ref aw) (.bl false) (.bl false))) := upd_same
    have pc15 : upd (upd (upd H14 pd (.dK [])) p5 (.lst (srcs.map V.str))) pd (.dK (shp7 (.str "derived") (.ref p5) (.ref p4) (.ref p2) (.ref aw) (.bl false) (.bl false))) p5 = some (.lst (srcs.map V.str)) := by rw [upd_ne np5, upd_same]
    generalize upd (upd (upd H14 pd (.dK [])) p5 (.lst (srcs.map V.str))) pd (.dK (shp7 (.str "derived") (.ref p5) (.ref p4) (.ref p2) (.ref aw) (.bl false) (.bl false))) = H15 at k15 o15 dd15 pc15 hpD ⊢
    have k1115 := k1114.trans k15
    have kH15 := k1014.trans k15
    obtain ⟨npD, npDc⟩ := o15.ne hpD
    have D0 : H pD = none := kH15.free npD hpD
    have L15 := k1115 _ _ pNs L11
    have S15 := (k14.trans k15) _ _ np2 S13
    have ne : PNe H st sc aw pN p2 p4 pd pD := ⟨naw, pNs, np2, np4, npd, npD, npdc, npDc, d0, D0, ne_of_none L15 hpD, ne_of_none S15 hpD⟩
    have ps0 : PSt K H (upd H15 pD (.lst [])) st sc aw pN p2 p4 pd pD ws srcs slots ns (.str "derived") (.bl false) (.bl false) srcs [] [] :=
      ⟨kH15.trans (Keep.new hpD), o15.new hpD, SqT.keep (k1115.trans (Keep.new hpD)) naw w11, SqT.keep (k15.trans (Keep.new hpD)) np4 S14, (Keep.new hpD) _ _ pNs L15, (Keep.new hpD) _ _ np2 S15,
        ⟨p5, (Keep.new hpD) _ _ npd dd15, (Keep.new hpD) _ _ np5s pc15, np5s, ne_of_none pc15 hpD⟩, upd_same, .nil⟩
    have w0 : ws ≠ [] := fun e => by rw [e] at wl; simp at wl; omega
    have sl0 : slots ≠ [] := fun e => by rw [e] at sln; simp at sln
    have so0 : srcs ≠ [] := fun e => by rw [e] at srl; simp at srl; omega
    have w100 : ws.length ≤ 100 := by omega
    have sr100 : srcs.length ≤ 100 := by omega
    -- the derived cells
    refine ⟨_, rfl, md, rfl, by omega, by omega, for_range (lo := 0) (n := md.toNat) (fun i σ H' => ∃ (v14 v15 v16 : Option V) (xs : List V) (ds : List (Str × List Td.Row)),
      σ = [some (.ref st), some (.ref z), some (.bl pk), some (.bl wr), some (.int (2 + mw)), some (.int (1 + ms)), some (.int md), some (.int me), some (.ref aw), some (.ref pN), some (.ref p2), some (.ref p4), some (.ref pd), some (.ref pD), v14, v15, v16, none] ∧
      PSt K H H' st sc aw pN p2 p4 pd pD ws srcs slots ns (.str "derived") (.bl false) (.bl false) (srcs ++ ds.map (·.1)) xs ds ∧ ds.length = i ∧ ds.map (·.1) = (ns.drop (1 + ms).toNat).take i ∧ okDer ws srcs (a4.toNat + 1) srcs ds)
      ⟨none, none, none, [], [], rfl, by simpa using ps0, rfl, by simp, by unfold okDer; trivial⟩ ?_ ?_⟩
    · rintro i σ H1 hi ⟨v14, v15, v16, xs, ds, rfl, ps, dl, dn, dok⟩
      have hil : (1 + ms).toNat + i < ns.length := by omega
      have hat : atI (ns.map V.str) (1 + ms + (0 + (i : Int))) = some (V.str ns[(1 + ms).toNat + i]) := by
        have : atI (ns.map V.str) (((1 + ms).toNat + i : Nat) : Int) = some (V.str ns[(1 + ms).toNat + i]) := atI_nat (by rw [List.getElem?_map, List.getElem?_eq_getElem hil]; rfl)
        rwa [show (((1 + ms).toNat + i : Nat) : Int) = 1 + ms + (0 + (i : Int)) by omega] at this
      refine ⟨_, rfl, _, rfl, _, rfl, _, _, rfl, rfl, pN, _, _, _, rfl, rfl, SqL.of ps.nA, hat, ?_⟩
      generalize hnm : ns[(1 + ms).toNat + i] = nm at hat
      have xl : xs.length = ds.length := by rw [ps.tA.length, List.length_map]
      have sh := ps.shape (eff := false) ne (fun h => nomatch h) (fun h => nomatch h) w0 sl0 (by simp [so0]) so0 ⟨w100, by omega, by rw [List.length_append, List.length_map]; omega, sr100⟩ slg
      refine ⟨_, rfl, _, rfl, _, rfl, z, _, 4, _, rfl, rfl, SqL.keep ps.kp nz hz, rfl, st, sc, pd, _, slots, 1, a4, rfl, ps.ok, sh, by decide, by decide, a40, by omega, fun rv rs H2 k2 o2 okr cr tr => ?_⟩
      have ps2 := ps.keep ne k2 o2
      refine ⟨fun σ' H' => ∃ (rv' : V) (rs' : List Td.Row), σ' = [some (.ref st), some (.ref z), some (.bl pk), some (.bl wr), some (.int (2 + mw)), some (.int (1 + ms)), some (.int md), some (.int me), some (.ref aw), some (.ref pN), some (.ref p2), some (.ref p4), some (.ref pd), some (.ref pD), some (.int (0 + (i : Int))), some (.str nm), some rv', none] ∧
        PSt K H H' st sc aw pN p2 p4 pd pD ws srcs slots ns (.str "derived") (.bl false) (.bl false) (srcs ++ ds.map (·.1)) xs ds ∧ okRs ⟨false, ws, srcs, srcs ++ ds.map (·.1)⟩ 1 rs' ∧ Lim false (a4.toNat + 1) rs' ∧ Tn K H' rv' (.tuple (rowsD rs')), ?_, ?_⟩
      · refine ⟨_, rfl, st, sc, 4, rfl, by decide, by decide, o2, fun x H3 x0 x1 k3 o3 _ => ⟨_, _, rfl, rfl, _, rfl, ?_⟩⟩
        have ps3 := ps2.keep ne k3 o3
        have tr3 := Tn.keep (TK.of_keep k3 o2.chg) tr
        refine ite2 (fun _ => ?_) (fun _ => ⟨rv, rs, rfl, ps3, okr, ⟨by omega, rs, [], (List.append_nil rs).symm, by omega, .inl rfl⟩, tr3⟩)
        obtain ⟨ar, ys, rfl, hS3, hT3⟩ := Tn.tup_inv tr3
        have yl : ys.length = rs.length := by rw [hT3.length, rowsD_length]
        have := cnts_len rs
        refine ⟨_, rfl, _, rfl, _, rfl, st, sc, 3, rfl, by decide, by decide, o3, fun y H4 y0 y1 k4 o4 _ => ?_⟩
        have ps4 := ps3.keep ne k4 o4
        obtain ⟨sl, hsl, esl⟩ := pick (xs := slots) y0 (by rw [List.length_map]; omega)
        refine ⟨p2, _, y, _, rfl, rfl, SqL.of ps4.lA, esl, by show 2 ≤ sizeLine; decide, fun t1 ht1 => ⟨by show 1 ≤ sizeLine; decide, fun t2 ht2 => ?_⟩⟩
        have g1 : Tn K (upd H4 t1 (.tup [.str "give", .str sl])) (.ref t1) (rowD (.give sl)) := by unfold rowD; exact Tn.new (TnAll.strs ["give", sl]) ht1
        have g2 := Tn.new (TnAll.one g1) ht2
        have ps5 := (ps4.new ne ht1 (o := .tup [.str "give", .str sl])).new ne ht2 (o := .tup [.ref t1])
        have tkx : TK H3 (upd (upd H4 t1 (.tup [.str "give", .str sl])) t2 (.tup [.ref t1])) := ((TK.of_keep k4 o3.chg).trans (TK.of_same (Same.new ht1 _))).trans (TK.of_same (Same.new ht2 _))
        have okg : okRs ⟨false, ws, srcs, srcs ++ ds.map (·.1)⟩ 1 (rs ++ [Td.Row.give sl]) := okRs_append okr (okRs_one (by unfold okR; exact ⟨rfl, slg sl hsl⟩))
        have cg : Lim false (a4.toNat + 1) (rs ++ [Td.Row.give sl]) := ⟨by rw [cnts_append, cnts_one]; show cnts rs + 1 ≤ _; omega, rs, [.give sl], rfl, by omega, .inr ⟨sl, rfl⟩⟩
        refine ⟨ar, t2, ys, [.ref t1], rfl, rfl, SqT.tk tkx hS3, SqT.of upd_same, Nat.le_of_lt (small1000 (by show ys.length + 1 ≤ 1000; omega)), fun e => ?_, fun _ e => (by cases e), fun _ _ t3 ht3 => ?_⟩
        · have er : rs = [] := by
            rw [e] at yl
            exact List.length_eq_zero_iff.mp yl.symm
          refine ⟨_, rs ++ [.give sl], rfl, ps5, okg, cg, ?_⟩
          rw [er]
          exact g2
        · refine ⟨_, rs ++ [.give sl], rfl, ps5.new ne ht3, okg, cg, ?_⟩
          rw [rowsD_append, rowsD_one]
          exact Tn.new (TnAll.append (TnAll.keep tkx hT3) (TnAll.one (Tn.keep (TK.of_same (Same.new ht2 _)) g1))) ht3
      · rintro σ' H3 ⟨rv', rs', rfl, ps3, okr', cr', tr'⟩
        refine ⟨_, rfl, .inl ⟨rfl, _, SqL.of ps3.xA⟩, _, rfl, _, rfl, by show 2 ≤ sizeLine; decide, fun t ht => ?_⟩
        have ps4 := ps3.new ne ht (o := .tup [.str nm, rv'])
        have tp : Tn K (upd H3 t (.tup [.str nm, rv'])) (.ref t) (Td.pairD (nm, rs')) := Tn.new (.cons (.str nm) (TnAll.one tr')) ht
        refine ⟨pD, _, _, rfl, rfl, ps4.xA, small1000 (by omega), ?_⟩
        have ps5 := ps4.app ne tp
        obtain ⟨pc, c1, c2, c3, c4⟩ := ps5.dA
        refine ⟨_, rfl, pd, _, rfl, dget_of c1 (get_cells ..), _, rfl, by show 1 ≤ sizeLine; decide, fun l hl => ?_⟩
        have ps6 := ps5.new ne hl (o := .lst [.str nm])
        refine ⟨pc, l, _, _, rfl, rfl, by rw [upd_ne (ne_of_none c2 hl)]; exact c2, upd_same, Nat.le_of_lt (small1000 ?_), fun l2 hl2 => ?_⟩
        · rw [List.length_map, List.length_append, List.length_map]; show srcs.length + ds.length + 1 ≤ 1000; omega
        have ps7 := ps6.new ne hl2 (o := .lst ((srcs ++ ds.map (·.1)).map V.str ++ [.str nm]))
        obtain ⟨pc', e1, e2, e3, e4⟩ := ps7.dA
        refine ⟨_, rfl, pd, _, rfl, DPut.k (k := Sum.inr "cells") e1 (small1000 (by show 7 ≤ 1000; decide)), ?_⟩
        rw [shp7_cells]
        have er : (srcs ++ ds.map (·.1)).map V.str ++ [V.str nm] = (srcs ++ (ds ++ [(nm, rs')]).map (·.1)).map V.str := by simp
        have ps8 := ps7.put (kd' := .str "derived") (pk' := .bl false) (wr' := .bl false) (rd' := srcs ++ (ds ++ [(nm, rs')]).map (·.1)) (pc' := l2) ne (by rw [upd_same, er])
          (ps6.ok.ne hl2).1 (Ne.symm (ne_of_none ps6.xA hl2))
        refine ⟨_, _, _, _, ds ++ [(nm, rs')], rfl, ps8, by rw [List.length_append, dl]; rfl, ?_, okDer_snoc dok okr' cr'⟩
        rw [List.map_append, dn]
        have hx : i < (ns.drop (1 + ms).toNat).length := by rw [List.length_drop]; omega
        rw [List.take_succ_eq_append_getElem hx, List.getElem_drop, hnm]
        rfl
    · rintro σ H1 ⟨v14, v15, v16, xs, ds, rfl, ps, dl, dn, dok⟩
      -- the shape of effects
      obtain ⟨pc, c1, c2, c3, c4⟩ := ps.dA
      refine ⟨_, rfl, pd, _, rfl, DPut.k (k := Sum.inr "kind") c1 (small1000 (by show 7 ≤ 1000; decide)), ?_⟩
      rw [shp7_kind]
      have ps1 := ps.put (kd' := .str "effects") (pk' := .bl false) (wr' := .bl false) ne c2 c3 c4
      refine ⟨_, rfl, _, rfl, pd, _, rfl, DPut.k (k := Sum.inr "peeks") upd_same (small1000 (by show 7 ≤ 1000; decide)), ?_⟩
      rw [shp7_peeks, upd_upd]
      refine ⟨_, rfl, _, rfl, pd, _, rfl, DPut.k (k := Sum.inr "writes") upd_same (small1000 (by show 7 ≤ 1000; decide)), ?_⟩
      rw [shp7_writes, upd_upd]
      have ps3 := ps.put (kd' := .str "effects") (pk' := .bl pk) (wr' := .bl wr) ne c2 c3 c4
      refine ⟨Nat.zero_le _, fun pE hpE => ?_⟩
      show tSeq _ _ _ _ (upd (upd H1 pd (.dK (shp7 (.str "effects") (.ref pc) (.ref p4) (.ref p2) (.ref aw) (.bl pk) (.bl wr)))) pE (.lst []))
      generalize upd H1 pd (.dK (shp7 (.str "effects") (.ref pc) (.ref p4) (.ref p2) (.ref aw) (.bl pk) (.bl wr))) = H2 at ps3 hpE
      obtain ⟨npE, npEc⟩ := ps3.ok.ne hpE
      have nDE : pD ≠ pE := ne_of_none ps3.xA hpE
      have nE : PNe H st sc aw pN p2 p4 pd pE := ⟨naw, pNs, np2, np4, npd, npE, npdc, npEc, d0, ps3.kp.free npE hpE, ne_of_none ps3.nA hpE, ne_of_none ps3.lA hpE⟩
      have pe0 : PSt K H (upd H2 pE (.lst [])) st sc aw pN p2 p4 pd pE ws srcs slots ns (.str "effects") (.bl pk) (.bl wr) (srcs ++ ds.map (·.1)) [] [] := by
        have pn := ps3.new ne hpE (o := .lst [])
        obtain ⟨pc', e1, e2, e3, e4⟩ := ps3.dA
        exact ⟨pn.kp, pn.ok, pn.wA, pn.sA, pn.nA, pn.lA, ⟨pc', (Keep.new hpE (st := st)) _ _ npd e1, (Keep.new hpE (st := st)) _ _ e3 e2, e3, ne_of_none e2 hpE⟩, upd_same, .nil⟩
      have xl : xs.length = ds.length := by rw [ps.tA.length, List.length_map]
      have ddl : ds.length ≤ 6 := by omega
      refine ⟨_, rfl, me, rfl, by omega, by omega, for_range (lo := 0) (n := me.toNat) (fun i σ H' => ∃ (v14 v16 : Option V) (ys : List V) (es : List (Str × List Td.Row)),
        σ = [some (.ref st), some (.ref z), some (.bl pk), some (.bl wr), some (.int (2 + mw)), some (.int (1 + ms)), some (.int md), some (.int me), some (.ref aw), some (.ref pN), some (.ref p2), some (.ref p4), some (.ref pd), some (.ref pD), v14, v15, v16, some (.ref pE)] ∧
        PSt K H H' st sc aw pN p2 p4 pd pE ws srcs slots ns (.str "effects") (.bl pk) (.bl wr) (srcs ++ ds.map (·.1)) ys es ∧ H' pD = some (.lst xs) ∧ TnAll K H' xs (ds.map Td.pairD) ∧ es.length = i ∧ es.map (·.1) = (ns.drop ((1 + ms).toNat + md.toNat)).take i ∧ okEff ws srcs (srcs ++ ds.map (·.1)) (a4.toNat + 1) es)
        ⟨v14, v16, [], [], rfl, pe0, by rw [upd_ne nDE]; exact ps3.xA, TnAll.keep (TK.of_same (Same.new hpE _)) ps3.tA, rfl, by simp, by unfold okEff; trivial⟩ ?_ ?_⟩
      · rintro i σ H3 hi ⟨v14, v16, ys, es, rfl, pe, sX, sT, el, en, eok⟩
        have hil : (1 + ms).toNat + md.toNat + i < ns.length := by omega
        have hat : atI (ns.map V.str) (1 + ms + md + (0 + (i : Int))) = some (V.str ns[(1 + ms).toNat + md.toNat + i]) := by
          have : atI (ns.map V.str) (((1 + ms).toNat + md.toNat + i : Nat) : Int) = some (V.str ns[(1 + ms).toNat + md.toNat + i]) := atI_nat (by rw [List.getElem?_map, List.getElem?_eq_getElem hil]; rfl)
          rwa [show (((1 + ms).toNat + md.toNat + i : Nat) : Int) = 1 + ms + md + (0 + (i : Int)) by omega] at this
        generalize hnm : ns[(1 + ms).toNat + md.toNat + i] = nm at hat
        have yl : ys.length = es.length := by rw [pe.tA.length, List.length_map]
        have sh := pe.shape (eff := true) nE (fun _ => rfl) (fun _ => rfl) w0 sl0 (by simp [so0]) so0 ⟨w100, by omega, by rw [List.length_append, List.length_map]; omega, sr100⟩ slg
        refine ⟨_, rfl, _, rfl, _, rfl, z, _, 4, _, rfl, rfl, SqL.keep pe.kp nz hz, rfl, st, sc, pd, _, slots, 1, a4, rfl, pe.ok, sh, by decide, by decide, a40, by omega, fun rv rs H4 k4 o4 okr cr tr => ?_⟩
        have pe4 := pe.keep nE k4 o4
        have sX4 := k4 _ _ npD sX
        have sT4 := TnAll.keep (TK.of_keep k4 pe.ok.chg) sT
        refine ⟨fun σ' H' => ∃ (rv' : V) (rs' : List Td.Row), σ' = [some (.ref st), some (.ref z), some (.bl pk), some (.bl wr), some (.int (2 + mw)), some (.int (1 + ms)), some (.int md), some (.int me), some (.ref aw), some (.ref pN), some (.ref p2), some (.ref p4), some (.ref pd), some (.ref pD), some (.int (0 + (i : Int))), v15, some rv', some (.ref pE)] ∧
          PSt K H H' st sc aw pN p2 p4 pd pE ws srcs slots ns (.str "effects") (.bl pk) (.bl wr) (srcs ++ ds.map (·.1)) ys es ∧ H' pD = some (.lst xs) ∧ TnAll K H' xs (ds.map Td.pairD) ∧ okRs ⟨true, ws, srcs, srcs ++ ds.map (·.1)⟩ 1 rs' ∧ Lim true (a4.toNat + 1) rs' ∧ Tn K H' rv' (.tuple (rowsD rs')), ?_, ?_⟩
        · refine ⟨_, rfl, st, sc, 4, rfl, by decide, by decide, o4, fun x H5 x0 x1 k5 o5 _ => ⟨_, _, rfl, rfl, _, rfl, ?_⟩⟩
          have pe5 := pe4.keep nE k5 o5
          have tr5 := Tn.keep (TK.of_keep k5 o4.chg) tr
          have sX5 := k5 _ _ npD sX4
          have sT5 := TnAll.keep (TK.of_keep k5 o4.chg) sT4
          refine ite2 (fun _ => ?_) (fun _ => ⟨rv, rs, rfl, pe5, sX5, sT5, okr, ⟨by omega, rs, [], (List.append_nil rs).symm, by omega, .inl rfl⟩, tr5⟩)
          obtain ⟨ar, us, rfl, hS5, hT5⟩ := Tn.tup_inv tr5
          have ul : us.length = rs.length := by rw [hT5.length, rowsD_length]
          have := cnts_len rs
          refine ⟨_, rfl, _, rfl, _, rfl, st, sc, 3, rfl, by decide, by decide, o5, fun y H6 y0 y1 k6 o6 _ => ?_⟩
          have pe6 := pe5.keep nE k6 o6
          obtain ⟨sl, hsl, esl⟩ := pick (xs := slots) y0 (by rw [List.length_map]; omega)
          refine ⟨p2, _, y, _, rfl, rfl, SqL.of pe6.lA, esl, by show 2 ≤ sizeLine; decide, fun t1 ht1 => ⟨by show 1 ≤ sizeLine; decide, fun t2 ht2 => ?_⟩⟩
          have g1 : Tn K (upd H6 t1 (.tup [.str "say", .str sl])) (.ref t1) (rowD (.say sl)) := by unfold rowD; exact Tn.new (TnAll.strs ["say", sl]) ht1
          have g2 := Tn.new (TnAll.one g1) ht2
          have pe7 := (pe6.new nE ht1 (o := .tup [.str "say", .str sl])).new nE ht2 (o := .tup [.ref t1])
          have kx : Keep st H5 (upd (upd H6 t1 (.tup [.str "say", .str sl])) t2 (.tup [.ref t1])) := (k6.trans (Keep.new ht1)).trans (Keep.new ht2)
          have tkx := TK.of_keep kx o5.chg
          have sX7 := kx _ _ npD sX5
          have sT7 := TnAll.keep tkx sT5
          have okg : okRs ⟨true, ws, srcs, srcs ++ ds.map (·.1)⟩ 1 (rs ++ [Td.Row.say sl]) := okRs_append okr (okRs_one (by unfold okR; exact ⟨rfl, slg sl hsl⟩))
          have cg : Lim true (a4.toNat + 1) (rs ++ [Td.Row.say sl]) := ⟨by rw [cnts_append, cnts_one]; show cnts rs + 1 ≤ _; omega, rs, [.say sl], rfl, by omega, .inr ⟨sl, rfl⟩⟩
          refine ⟨ar, t2, us, [.ref t1], rfl, rfl, SqT.tk tkx hS5, SqT.of upd_same, Nat.le_of_lt (small1000 (by show us.length + 1 ≤ 1000; omega)), fun e => ?_, fun _ e => (by cases e), fun _ _ t3 ht3 => ?_⟩
          · have er : rs = [] := by
              rw [e] at ul
              exact List.length_eq_zero_iff.mp ul.symm
            refine ⟨_, rs ++ [.say sl], rfl, pe7, sX7, sT7, okg, cg, ?_⟩
            rw [er]
            exact g2
          · refine ⟨_, rs ++ [.say sl], rfl, pe7.new nE ht3, (Keep.new ht3 (st := st)) _ _ npD sX7, TnAll.keep (TK.of_same (Same.new ht3 _)) sT7, okg, cg, ?_⟩
            rw [rowsD_append, rowsD_one]
            exact Tn.new (TnAll.append (TnAll.keep tkx hT5) (TnAll.one (Tn.keep (TK.of_same (Same.new ht2 _)) g1))) ht3
        · rintro σ' H5 ⟨rv', rs', rfl, pe5, sX5, sT5, okr', cr', tr'⟩
          refine ⟨_, rfl, .inl ⟨rfl, _, SqL.of pe5.xA⟩, _, rfl, _, rfl, _, rfl, _, _, rfl, rfl, _, rfl, _, _, rfl, rfl, pN, _, _, _, rfl, rfl, SqL.of pe5.nA, hat, _, rfl, by show 2 ≤ sizeLine; decide, fun t ht => ?_⟩
          have pe6 := pe5.new nE ht (o := .tup [.str nm, rv'])
          have tp : Tn K (upd H5 t (.tup [.str nm, rv'])) (.ref t) (Td.pairD (nm, rs')) := Tn.new (.cons (.str nm) (TnAll.one tr')) ht
          refine ⟨pE, _, _, rfl, rfl, pe6.xA, small1000 (by omega), ?_⟩
          have pe7 := pe6.app nE tp
          have sX6 : upd H5 t (.tup [.str nm, rv']) pD = some (.lst xs) := (Keep.new ht (st := st)) _ _ npD sX5
          have sT6 := TnAll.keep (TK.of_same (Same.new ht (.tup [.str nm, rv']))) sT5
          refine ⟨_, _, _, es ++ [(nm, rs')], rfl, pe7, by rw [upd_ne nDE]; exact sX6, TnAll.keep (TK.upd (by rw [pe6.xA]; trivial)) sT6, by rw [List.length_append, el]; rfl, ?_, okEff_snoc eok okr' cr'⟩
          rw [List.map_append, en]
          have hx : i < (ns.drop ((1 + ms).toNat + md.toNat)).length := by rw [List.length_drop]; omega
          rw [List.take_succ_eq_append_getElem hx, List.getElem_drop, hnm]
          rfl
      · rintro σ H3 ⟨v14, v16, ys, es, rfl, pe, sX, sT, el, en, eok⟩
        have yl : ys.length = es.length := by rw [pe.tA.length, List.length_map]
        refine ⟨_, rfl, _, rfl, _, rfl, pD, _, rfl, .inl ⟨SqL.of sX, fun t1 ht1 => ?_⟩⟩
        have pe1 := pe.new nE ht1 (o := .tup xs)
        refine ⟨_, rfl, pE, _, rfl, .inl ⟨SqL.of pe1.xA, fun t2 ht2 => ?_⟩⟩
        have pe2 := pe1.new nE ht2 (o := .tup ys)
        refine ⟨by show 4 ≤ sizeLine; decide, fun t3 ht3 => ?_⟩
        have pe3 := pe2.new nE ht3 (o := .tup [.ref aw, .ref p4, .ref t1, .ref t2])
        have tD : Tn K (upd (upd H3 t1 (.tup xs)) t2 (.tup ys)) (.ref t1) (pairsD ds) := Tn.keep (TK.of_same (Same.new ht2 _)) (Tn.new sT ht1)
        have tE : Tn K (upd (upd H3 t1 (.tup xs)) t2 (.tup ys)) (.ref t2) (pairsD es) := Tn.new pe1.tA ht2
        refine q _ ⟨ws, srcs, ds, es⟩ _ pe3.kp pe3.ok ⟨by show 2 ≤ ws.length; omega, by show ws.length ≤ 4; omega, by show 1 ≤ srcs.length; omega, by show srcs.length ≤ 4; omega, ddl, by show es.length ≤ 4; omega, wN, ?_, dok, eok⟩ ?_
        · have e : PP.names ⟨ws, srcs, ds, es⟩ = ns := by
            show srcs ++ ds.map (·.1) ++ es.map (·.1) = ns
            rw [dn, en, ← hse]
            have h1 := List.take_append_drop (1 + ms).toNat ns
            have h2 := List.take_append_drop md.toNat (ns.drop (1 + ms).toNat)
            rw [List.drop_drop] at h2
            have h3 : (ns.drop ((1 + ms).toNat + md.toNat)).take me.toNat = ns.drop ((1 + ms).toNat + md.toNat) := List.take_of_length_le (by rw [List.length_drop]; omega)
            rw [h3, List.append_assoc, h2, h1]
          rw [e]; exact nN
        · exact Tn.new (.cons (.tup pe2.wA (TnAll.strs ws)) (.cons (.tup pe2.sA (TnAll.strs srcs)) (.cons tD (TnAll.one tE)))) ht3
end
end K07
namespace K07
open PySem PySem.Spec PyProof.Rows L2 Td
/-! ### names and pairs that are right -/
def spIsName : Sp := fun vs H Q _ => ∃ z, vs = [.str z] ∧ isNm z = true ∧ ∀ H', Same H H' → Q (.bl true) H'
def spAreNames (K : PySem.W.Frag) : Sp := fun vs H Q _ => ∃ (a : Addr) (zs : List Str) (l m : Int), vs = [.ref a, .int l, .int m] ∧ SqT K H a (zs.map V.str) ∧ Names zs ∧ l ≤ zs.length ∧ (zs.length : Int) ≤ m ∧ zs.length ≤ 100 ∧
  ∀ H', Same H H' → Q (.bl true) H'
def spNamedPairs (K : PySem.W.Frag) : Sp := fun vs H Q _ => ∃ (v : V) (tk : Addr) (ps : List (Str × List Td.Row)) (ts : List Str) (m : Int), vs = [v, .int m, .ref tk] ∧ Tn K H v (pairsD ps) ∧ SqT K H tk (ts.map V.str) ∧
  Names (ts ++ ps.map (·.1)) ∧ (ps.length : Int) ≤ m ∧ ps.length ≤ 100 ∧ ts.length ≤ 100 ∧ ∀ H', Same H H' → Q (.bl true) H'
def spNamesOf (K : PySem.W.Frag) : Sp := fun vs H Q _ => ∃ (v : V) (ps : List (Str × List Td.Row)), vs = [v] ∧ Tn K H v (pairsD ps) ∧ ps.length ≤ 100 ∧
  ∀ (p : Addr) H', Same H H' → SqT K H' p (ps.map fun q => V.str q.1) → Q (.ref p) H'
theorem isNm_len {z : Str} (h : isNm z = true) : 1 ≤ z.length ∧ z.length ≤ 8 ∧ z.cps.toList.all lowc = true := by
  unfold isNm at h
  simp only [Bool.and_eq_true, decide_eq_true_eq] at h
  exact ⟨h.1.1, h.1.2, h.2⟩
theorem ty_tup {K : PySem.W.Frag} {H : Hp} {a : Addr} {xs : List V} (h : SqT K H a xs) : TyX K H (.ref a) (.type "tuple") := by
  rcases h with (h | ⟨o, h⟩) | ⟨o, its, n, h, c, _⟩
  · exact .base (.tup h)
  · exact .fTuple h
  · exact .kTuple h c
/-- the pairs' items -/
theorem pairs_at {K : PySem.W.Frag} {H : Hp} {v : V} {ps : List (Str × List Td.Row)} (h : Tn K H v (pairsD ps)) : ∃ (a : Addr) (xs : List V), v = .ref a ∧ SqT K H a xs ∧ xs.length = ps.length ∧
    ∀ (i : Nat) (x : V), xs[i]? = some x → ∃ (q : Str × List Td.Row) (b : Addr) (vr : V), ps[i]? = some q ∧ x = .ref b ∧ SqT K H b [.str q.1, vr] ∧ Tn K H vr (.tuple (rowsD q.2)) := by
  obtain ⟨a, xs, rfl, hS, hT⟩ := Tn.tup_inv h
  have hl := hT.length
  rw [List.length_map] at hl
  refine ⟨a, xs, rfl, hS, hl, fun i x hx => ?_⟩
  have hi : i < ps.length := by rw [← hl]; exact (List.getElem?_eq_some_iff.mp hx).1
  obtain ⟨d, h1, h2⟩ := TnAll.get hT hx
  rw [List.getElem?_map, List.getElem?_eq_getElem hi] at h1
  cases h1
  obtain ⟨b, ys, rfl, hS2, hT2⟩ := Tn.tup_inv h2
  cases hT2 with
  | cons c1 c2 =>
    cases c1
    cases c2 with
    | cons c3 c4 =>
      cases c4
      exact ⟨_, b, _, List.getElem?_eq_getElem hi, rfl, hS2, c3⟩
section
variable {P : Program} {w : World} {K : PySem.W.Frag} {mg : Str → Option Value} {base : Heap}
theorem ok_is_name (T : Tops w K mg) : FnOk P w K mg base CX0 1 T.a_is_name T.d_is_name ["value"] spIsName := by
  refine T.F_is_name.ok sc_is_name (fun vs H Q E h => ?_) (fun cdv A outer s H vs Q E hr h => ?_)
  · obtain ⟨z, rfl, _⟩ := h
    rfl
  obtain ⟨z, rfl, hz, q⟩ := h
  obtain ⟨z1, z8, zl⟩ := isNm_len hz
  refine ⟨_, (pss_cons (ps_if (PW.pt (pw_or (pt_not (pt_val (pe_callB call_isi rfl T.z_isinstance (by decide +kernel) (pa_cons (pv 0) (pa_cons (pe_bltn (v := .ty "str") rfl T.z_str (by decide +kernel) rfl) pa_nil))))) (pw_or1 (pt_not (pt_chain op_le op_le pe_int (pe_callB call_len rfl T.z_len PySem.boot_len (pa_cons (pv 0) pa_nil)) (pe_glob (v := .int 8) rfl T.c_LONGEST_NAME ⟨_, rfl⟩)))))) (pss_one (ps_ret pe_bl)) pss_nil)
    (pss_one (ps_ret (pe_callB (cr_all rfl) rfl T.z_all (by decide +kernel) (pa_cons (pe_lc (own := [("letter", 1)]) (g := gName 1) (tt := tYes) rfl sc_is_name.nd (pi_str (pv 0)) (blkOk_by (own := [("letter", 1)]) (N := N_is_name) (sc := defScope s_is_name) (by decide +kernel)) (fun _ _ _ _ _ => (pg_name (i := 1) sc_is_name.nd rfl (Or.inl rfl))) (fun _ _ _ _ _ => pts_nil) (fun _ _ _ _ _ => (pe_chain op_le_str op_le_str pe_str (pv 1) pe_str))) pa_nil))))), ?_⟩
  have zs : z.length ≤ sizeLine := Nat.le_of_lt (small1000 (by omega))
  refine ⟨_, rfl, .str z, .ty "str", .type "str", .type "str", true, rfl, .ty _, .base (.str z), kit_ty (by decide +kernel), true, rfl, iteF ?_⟩
  refine ⟨_, rfl, .str z, _, rfl, ⟨zs, rfl⟩, _, _, rfl, rfl, _, rfl, ?_⟩
  have e1 : decide ((1 : Int) ≤ (z.length : Int)) = true := decide_eq_true (by omega)
  refine if_true_of e1 ?_
  have e2 : decide ((z.length : Int) ≤ (8 : Int)) = true := decide_eq_true (by omega)
  refine ⟨_, _, rfl, rfl, _, rfl, ?_⟩
  refine if_false_of (by rw [e2]; rfl) ?_
  -- all([..])
  refine ⟨_, rfl, z, rfl, fun D hD => lc_str (fun i H' => ∃ bs : List Bool, Same H H' ∧ H' D = some (.lst (bs.map V.bl)) ∧ bs.length = i ∧ bs.all id = true) ⟨[], Same.new hD _, upd_same, rfl, rfl⟩ ?_ ?_⟩
  · rintro i c H' hc ⟨bs, hs, hb, hl, ha⟩
    have hlow : lowc c = true := by
      rw [List.all_eq_true] at zl
      exact zl c (by rw [Array.mem_toList_iff]; exact Array.mem_of_getElem? hc)
    unfold lowc at hlow
    simp only [Bool.and_eq_true, decide_eq_true_eq] at hlow
    have na : ("a" : Str).cps.toList = [97] := by decide +kernel
    have nz : ("z" : Str).cps.toList = [122] := by decide +kernel
    have k1 : (!decide ((⟨#[c]⟩ : Str).cps.toList < ("a" : Str).cps.toList)) = true := by
      rw [na]
      show (!decide ([c] < [97])) = true
      simp [List.cons_lt_cons_iff]
      omega
    have k2 : (!decide (("z" : Str).cps.toList < (⟨#[c]⟩ : Str).cps.toList)) = true := by
      rw [nz]
      show (!decide ([122] < [c])) = true
      simp [List.cons_lt_cons_iff]
      omega
    have hic : i < z.cps.size := (Array.getElem?_eq_some_iff.mp hc).1
    have hz8 : z.cps.size ≤ 8 := z8
    refine ⟨rfl, ?_⟩
    refine tYes_of ?_
    refine ⟨_, rfl, _, _, rfl, rfl, _, rfl, if_true_of k1 ?_⟩
    refine ⟨_, _, rfl, rfl, _, hb, small1000 (by rw [List.length_map]; omega), bs ++ [true], ?_, ?_, by rw [List.length_append, hl]; rfl, ?_⟩
    · intro b o e
      rw [upd_ne (ne_of_none e hD)]
      exact hs b o e
    · rw [upd_same, k2, List.map_append]; rfl
    · rw [List.all_append, ha]; rfl
  · rintro H' ⟨bs, hs, hb, hl, ha⟩
    refine ⟨D, bs, rfl, SqL.of hb, ?_⟩
    rw [ha]
    exact q H' hs
theorem ok_are_names (T : Tops w K mg) (G_is_name : FnOk P w K mg base CX0 1 T.a_is_name T.d_is_name ["value"] spIsName) :
    FnOk P w K mg base CX0 2 T.a_are_names T.d_are_names ["value", "least", "most"] (spAreNames K) := by
  refine T.F_are_names.ok sc_are_names (fun vs H Q E h => ?_) (fun cdv A outer s H vs Q E hr h => ?_)
  · obtain ⟨a, zs, l, m, rfl, _⟩ := h
    rfl
  obtain ⟨a, zs, l, m, rfl, hS, hN, hl, hm, h100, q⟩ := h
  refine ⟨_, (pss_cons (ps_if (PW.pt (pw_or (pt_not (pt_val (pe_callB call_isi rfl T.z_isinstance (by decide +kernel) (pa_cons (pv 0) (pa_cons (pe_bltn (v := .ty "tuple") rfl T.z_tuple (by decide +kernel) rfl) pa_nil))))) (pw_or1 (pt_not (pt_chain op_le op_le (pv 1) (pe_callB call_len rfl T.z_len PySem.boot_len (pa_cons (pv 0) pa_nil)) (pv 2)))))) (pss_one (ps_ret pe_bl)) pss_nil)
    (pss_one (ps_ret (pe_and (pe_callB (cr_all rfl) rfl T.z_all (by decide +kernel) (pa_cons (pe_lc (own := [("item", 3)]) (g := gName 3) (tt := tYes) rfl sc_are_names.nd (pi_tup (pv 0)) (blkOk_by (own := [("item", 3)]) (N := N_are_names) (sc := defScope s_are_names) (by decide +kernel)) (fun _ _ _ _ _ => (pg_name (i := 3) sc_are_names.nd rfl (Or.inl rfl))) (fun _ _ _ _ _ => pts_nil) (fun _ _ _ _ _ => (pe_call G_is_name (hr.mono (by omega)) rfl T.m_is_name T.F_is_name.kp T.b_is_name .nil pass0 (pa_cons (pv 3) pa_nil)))) pa_nil)) (pe_one (pe_cmpR op_eq (pe_lenSetT rfl rfl T.z_len rfl T.z_set (pv 0)) (pe_callB call_len rfl T.z_len PySem.boot_len (pa_cons (pv 0) pa_nil)) (nomark _))))))), ?_⟩
  refine ⟨_, rfl, .ref a, .ty "tuple", .type "tuple", .type "tuple", true, rfl, .ty _, ty_tup hS, kit_ty (by decide +kernel), true, rfl, iteF ?_⟩
  have e0 : (zs.map V.str).length = zs.length := List.length_map _
  refine ⟨_, rfl, _, rfl, .ref a, _, rfl, .inr ⟨_, hS, rfl⟩, _, _, rfl, rfl, _, rfl, ?_⟩
  have e1 : decide (l ≤ (((zs.map V.str).length : Nat) : Int)) = true := decide_eq_true (by omega)
  refine if_true_of e1 ?_
  have e2 : decide ((((zs.map V.str).length : Nat) : Int) ≤ m) = true := decide_eq_true (by omega)
  refine ⟨_, rfl, _, _, rfl, rfl, _, rfl, ?_⟩
  refine if_false_of (by rw [e2]; rfl) ?_
  refine ⟨_, rfl, a, rfl, ⟨_, hS⟩, fun D hD => lc_tup (K := K) (a := a) (xs := zs.map V.str) (fun i H' => ∃ bs : List Bool, Same H H' ∧ H' D = some (.lst (bs.map V.bl)) ∧ bs.length = i ∧ bs.all id = true)
    ⟨[], Same.new hD _, upd_same, rfl, rfl⟩ (fun i H' _ ⟨_, hs, _⟩ => SqT.same hs hS) ?_ ?_⟩
  · rintro i x H' hx ⟨bs, hs, hb, hl', ha⟩
    rw [List.getElem?_map] at hx
    obtain ⟨z, hz, rfl⟩ := Option.map_eq_some_iff.mp hx
    have hi : i < zs.length := (List.getElem?_eq_some_iff.mp hz).1
    refine ⟨rfl, ?_⟩
    refine tYes_of ?_
    refine ⟨_, rfl, z, rfl, hN.good z (List.mem_of_getElem? hz), fun H4 s4 => ⟨_, s4 _ _ hb, small1000 (by rw [List.length_map]; omega), bs ++ [true], ?_, by rw [upd_same, List.map_append]; rfl, by rw [List.length_append, hl']; rfl, by rw [List.all_append, ha]; rfl⟩⟩
    intro b o e
    rw [upd_ne (ne_of_none e hD)]
    exact s4 _ _ (hs b o e)
  · rintro H' ⟨bs, hs, hb, hl', ha⟩
    have hS' := SqT.same hs hS
    refine ⟨D, bs, rfl, SqL.of hb, _, rfl, ?_⟩
    refine if_true_of ha ?_
    refine ⟨_, rfl, a, zs, rfl, hS', by omega, _, rfl, .ref a, _, rfl, .inr ⟨_, hS', rfl⟩, rfl, ?_⟩
    have e3 : TdSet.dcnt zs zs.length = zs.length := TdSet.dcnt_nodup (Nat.le_refl _) (by rw [List.take_length]; exact hN.nd)
    have e4 : decide (V.int (TdSet.dcnt zs zs.length : Nat) = V.int (((zs.map V.str).length : Nat) : Int)) = true := by rw [e3, e0]; exact decide_eq_true rfl
    rw [e4]
    exact q H' hs
theorem ok_named_pairs (T : Tops w K mg) (G_is_name : FnOk P w K mg base CX0 1 T.a_is_name T.d_is_name ["value"] spIsName) :
    FnOk P w K mg base CX0 2 T.a_are_named_pairs T.d_are_named_pairs ["value", "most", "taken"] (spNamedPairs K) := by
  refine T.F_are_named_pairs.ok sc_are_named_pairs (fun vs H Q E h => ?_) (fun cdv A outer s H vs Q E hr h => ?_)
  · obtain ⟨v, tk, ps, ts, m, rfl, _⟩ := h
    rfl
  obtain ⟨v, tk, ps, ts, m, rfl, hT, hS, hN, hm, h100, t100, q⟩ := h
  obtain ⟨a, xs, rfl, hA, hl, hx⟩ := pairs_at hT
  refine ⟨_, (pss_cons (ps_if (PW.pt (pw_or (pt_not (pt_val (pe_callB call_isi rfl T.z_isinstance (by decide +kernel) (pa_cons (pv 0) (pa_cons (pe_bltn (v := .ty "tuple") rfl T.z_tuple (by decide +kernel) rfl) pa_nil))))) (pw_or1 (pt_cmpR op_gt (pe_callB call_len rfl T.z_len PySem.boot_len (pa_cons (pv 0) pa_nil)) (pv 1) (nomark _))))) (pss_one (ps_ret pe_bl)) pss_nil)
    (pss_cons (ps_set (i := 3) sc_are_named_pairs.nd rfl (Or.inl rfl) (pe_callTy call_list_of rfl T.z_list (by decide +kernel) (pa_cons (pv 2) pa_nil)))
    (pss_cons (ps_for PassesOwn.never rfl (pi_tup (pv 0)) (pg_name (i := 4) sc_are_named_pairs.nd rfl (Or.inl rfl)) (pss_cons (ps_if (PW.pt (pw_or (pt_not (pt_val (pe_callB call_isi rfl T.z_isinstance (by decide +kernel) (pa_cons (pv 4) (pa_cons (pe_bltn (v := .ty "tuple") rfl T.z_tuple (by decide +kernel) rfl) pa_nil))))) (pw_or1 (pt_cmpR op_ne (pe_callB call_len rfl T.z_len PySem.boot_len (pa_cons (pv 4) pa_nil)) pe_int (nomark _))))) (pss_one (ps_ret pe_bl)) pss_nil)
    (pss_cons (ps_if (PW.pt (pw_or (pt_not (pt_val (pe_call G_is_name (hr.mono (by omega)) rfl T.m_is_name T.F_is_name.kp T.b_is_name .nil pass0 (pa_cons (pe_ix ix_tup (pv 4) pe_int (fun _ _ => rfl)) pa_nil)))) (pw_or1 (pt_cmpR op_in_seq (pe_ix ix_tup (pv 4) pe_int (fun _ _ => rfl)) (pv 3) (by rfl))))) (pss_one (ps_ret pe_bl)) pss_nil)
    (pss_one (ps_expr (pe_bm PySem.F.plainAttrs_list PySem.F.slot_list_append PySem.F.type_list_append mt_append (pv 3) (pa_cons (pe_ix ix_tup (pv 4) pe_int (fun _ _ => rfl)) pa_nil)))))))
    (pss_one (ps_ret pe_bl))))), ?_⟩
  refine ⟨_, rfl, .ref a, .ty "tuple", .type "tuple", .type "tuple", true, rfl, .ty _, ty_tup hA, kit_ty (by decide +kernel), true, rfl, iteF ?_⟩
  refine ⟨_, rfl, .ref a, _, rfl, .inr ⟨_, hA, rfl⟩, _, rfl, _, _, rfl, rfl, _, rfl, ?_⟩
  have e1 : decide (m < ((xs.length : Nat) : Int)) = false := decide_eq_false (by omega)
  refine if_false_of e1 ?_
  refine ⟨_, rfl, tk, _, rfl, .inr hS, fun l hl0 => ?_⟩
  refine ⟨_, rfl, a, rfl, ⟨_, SqT.same (Same.new hl0 _) hA⟩, for_tup (K := K) (a := a) (xs := xs) (fun i σ H' => ∃ v4 : Option V, σ = [some (.ref a), some (.int m), some (.ref tk), some (.ref l), v4] ∧ Same H H' ∧ H' l = some (.lst ((ts ++ (ps.take i).map (·.1)).map V.str)))
    ⟨none, rfl, Same.new hl0 _, by simpa using upd_same⟩ (fun i σ H' _ ⟨_, _, hs, _⟩ => SqT.same hs hA) ?_ ?_⟩
  · rintro i x σ H' hi ⟨v4, rfl, hs, hL⟩
    obtain ⟨qq, b, vr, hq, rfl, hB, hR⟩ := hx i x hi
    have hB' := SqT.same hs hB
    have hips : i < ps.length := (List.getElem?_eq_some_iff.mp hq).1
    refine ⟨_, rfl, .ref b, .ty "tuple", .type "tuple", .type "tuple", true, rfl, .ty _, ty_tup hB', kit_ty (by decide +kernel), true, rfl, iteF ?_⟩
    refine ⟨_, rfl, .ref b, _, rfl, .inr ⟨_, hB', rfl⟩, rfl, _, rfl, ?_⟩
    refine if_false_of (by show (!decide (V.int ((2 : Nat) : Int) = V.int 2)) = false; decide +kernel) ?_
    have hmem : qq.1 ∈ ps.map (·.1) := List.mem_map.mpr ⟨qq, List.mem_of_getElem? hq, rfl⟩
    refine ⟨_, rfl, b, _, 0, _, rfl, rfl, hB', rfl, qq.1, rfl, hN.good _ (List.mem_append_right _ hmem), fun H3 s3 => ⟨true, rfl, iteF ?_⟩⟩
    have hB3 := SqT.same s3 hB'
    have hL3 := s3 _ _ hL
    refine ⟨_, rfl, b, _, 0, _, rfl, rfl, hB3, rfl, _, rfl, l, _, rfl, .inl (SqL.of hL3), rfl, L2.flat_strs _, _, rfl, ?_⟩
    have hnot : qq.1 ∉ ts ++ (ps.take i).map (·.1) := by
      have e : ts ++ ps.map (·.1) = (ts ++ (ps.take i).map (·.1)) ++ (ps.drop i).map (·.1) := by
        rw [List.append_assoc, ← List.map_append, List.take_append_drop]
      have nd := hN.nd
      rw [e] at nd
      intro hin
      refine (List.nodup_append.mp nd).2.2 _ hin qq.1 ?_ rfl
      refine List.mem_map.mpr ⟨qq, ?_, rfl⟩
      have : (ps.drop i)[0]? = some qq := by rw [List.getElem?_drop]; exact hq
      exact List.mem_of_getElem? this
    refine if_false_of (by show (inV _ _) = false; rw [inV_strs]; exact decide_eq_false hnot) ?_
    refine ⟨_, rfl, .inl ⟨rfl, _, SqL.of hL3⟩, _, rfl, b, _, 0, _, rfl, rfl, hB3, rfl, l, _, _, rfl, rfl, hL3, small1000 ?_, ?_⟩
    · rw [List.length_map, List.length_append, List.length_map, List.length_take]; omega
    · refine ⟨_, rfl, fun b o e => ?_, ?_⟩
      · rw [upd_ne (ne_of_none e hl0)]
        exact s3 _ _ (hs b o e)
      · rw [upd_same, take_more hq]
        simp
  · rintro σ H' ⟨v4, rfl, hs, hL⟩
    exact q H' hs
theorem ok_names_of (T : Tops w K mg) : FnOk P w K mg base CX0 1 T.a_names_of T.d_names_of ["pairs"] (spNamesOf K) := by
  refine T.F_names_of.ok sc_names_of (fun vs H Q E h => ?_) (fun cdv A outer s H vs Q E hr h => ?_)
  · obtain ⟨v, ps, rfl, _⟩ := h
    rfl
  obtain ⟨v, ps, rfl, hT, h100, q⟩ := h
  obtain ⟨a, xs, rfl, hA, hl, hx⟩ := pairs_at hT
  refine ⟨_, (pss_one (ps_ret (pe_callTy call_tuple_of rfl T.z_tuple (by decide +kernel) (pa_cons (pe_lc (own := [("name", 1), ("_", 2)]) (g := gTup K 2 (gCons (gName 1) (gCons (gName 2) gNil))) (tt := tYes) rfl sc_names_of.nd (pi_tup (pv 0)) (blkOk_by (own := [("name", 1), ("_", 2)]) (N := N_names_of) (sc := defScope s_names_of) (by decide +kernel)) (fun _ _ _ _ _ => (pg_tup rfl (pgs_cons (pg_name (i := 1) sc_names_of.nd rfl (Or.inl rfl)) (pgs_cons (pg_name (i := 2) sc_names_of.nd rfl (Or.inl rfl)) pgs_nil)))) (fun _ _ _ _ _ => pts_nil) (fun _ _ _ _ _ => (pv 1))) pa_nil)))), ?_⟩
  refine ⟨_, rfl, a, rfl, ⟨_, hA⟩, fun D hD => lc_tup (K := K) (a := a) (xs := xs) (fun i H' => Same H H' ∧ H' D = some (.lst ((ps.take i).map fun q => V.str q.1)))
    ⟨Same.new hD _, by simpa using upd_same⟩ (fun i H' _ ⟨hs, _⟩ => SqT.same hs hA) ?_ ?_⟩
  · rintro i x H' hi ⟨hs, hb⟩
    obtain ⟨qq, b, vr, hq, rfl, hB, hR⟩ := hx i x hi
    have hB' := SqT.same hs hB
    have hips : i < ps.length := (List.getElem?_eq_some_iff.mp hq).1
    refine ⟨b, _, rfl, hB', rfl, _, _, rfl, _, _, rfl, rfl, rfl, ?_⟩
    refine tYes_of ?_
    refine ⟨_, rfl, _, hb, small1000 (by rw [List.length_map, List.length_take]; omega), fun c o e => ?_, ?_⟩
    · rw [upd_ne (ne_of_none e hD)]
      exact hs c o e
    · rw [upd_same, take_more hq, List.map_append]; rfl
  · rintro H' ⟨hs, hb⟩
    rw [hl, List.take_length] at hb
    refine ⟨D, _, rfl, .inl ⟨SqL.of hb, fun p hp => q p _ (hs.trans (Same.new hp _)) (SqT.of upd_same)⟩⟩
end
end K07
namespace K07
open PySem PySem.Spec PyProof.Rows L2 Td
/-! ### the rows of a body that is right -/
def kdS (eff : Bool) : Str := if eff then "effects" else "derived"
def scF (kd : Str) (aw as ar : Addr) : List (Str × V) := [("kind", .str kd), ("words", .ref aw), ("sources", .ref as), ("readable", .ref ar)]
theorem scF_put (kd : Str) (aw as ar : Addr) : putF "readable" (.ref ar) (putF "sources" (.ref as) (putF "words" (.ref aw) (putF "kind" (.str kd) []))) = scF kd aw as ar := by kernel_rfl
theorem scF_kind (kd : Str) (aw as ar : Addr) : (scF kd aw as ar).lookup ("kind" : Str) = some (.str kd) := by kernel_rfl
theorem scF_words (kd : Str) (aw as ar : Addr) : (scF kd aw as ar).lookup ("words" : Str) = some (.ref aw) := by kernel_rfl
theorem scF_sources (kd : Str) (aw as ar : Addr) : (scF kd aw as ar).lookup ("sources" : Str) = some (.ref as) := by kernel_rfl
theorem scF_readable (kd : Str) (aw as ar : Addr) : (scF kd aw as ar).lookup ("readable" : Str) = some (.ref ar) := by kernel_rfl
structure ScopeAt (K : PySem.W.Frag) (H : Hp) (C sa : Addr) (S : Sc) : Prop where
  ex : ∃ (dx aw as ar : Addr), H sa = some (.ins C dx (scF (kdS S.eff) aw as ar)) ∧ SqT K H aw (S.words.map V.str) ∧ SqT K H as (S.sources.map V.str) ∧ SqT K H ar (S.readable.map V.str)
theorem ScopeAt.same {K : PySem.W.Frag} {H H' : Hp} {C sa : Addr} {S : Sc} (h : ScopeAt K H C sa S) (s : Same H H') : ScopeAt K H' C sa S := by
  obtain ⟨dx, aw, as, ar, e, h1, h2, h3⟩ := h.ex
  exact ⟨dx, aw, as, ar, s _ _ e, SqT.same s h1, SqT.same s h2, SqT.same s h3⟩
def spScope (C : Addr) : Sp := fun vs H Q _ => ∃ (x dx aw as ar : Addr) (kd : Str), vs = [.ref x, .str kd, .ref aw, .ref as, .ref ar] ∧ H x = some (.ins C dx []) ∧ Q .non (upd H x (.ins C dx (scF kd aw as ar)))
def spRead (K : PySem.W.Frag) (C : Addr) : Sp := fun vs H Q _ => ∃ (v : V) (sa : Addr) (S : Sc) (pk : Bool) (c s : Str), vs = [v, .ref sa] ∧ Dp K H v (rowD (.rd pk c s)) ∧ ScopeAt K H C sa S ∧ c ∈ S.readable ∧ isNm s = true ∧ ∀ H', Same H H' → Q (.bl true) H'
def spPut (K : PySem.W.Frag) (C : Addr) : Sp := fun vs H Q _ => ∃ (v : V) (sa : Addr) (S : Sc) (s u : Str), vs = [v, .ref sa] ∧ Dp K H v (rowD (.put s u)) ∧ ScopeAt K H C sa S ∧ u ∈ S.words ∧ isNm s = true ∧ ∀ H', Same H H' → Q (.bl true) H'
def spIf (K : PySem.W.Frag) (C : Addr) : Sp := fun vs H Q _ => ∃ (v : V) (sa : Addr) (S : Sc) (s u : Str) (y n : List Td.Row), vs = [v, .ref sa] ∧ Dp K H v (rowD (.ite s u y n)) ∧ ScopeAt K H C sa S ∧ u ∈ S.words ∧ isNm s = true ∧ ∀ H', Same H H' → Q (.bl true) H'
def spSlot (K : PySem.W.Frag) (C : Addr) : Sp := fun vs H Q _ => ∃ (v : V) (sa : Addr) (S : Sc) (g : Bool) (s : Str), vs = [v, .ref sa] ∧ Dp K H v (rowD (if g then .give s else .say s)) ∧ ScopeAt K H C sa S ∧ isNm s = true ∧ ∀ H', Same H H' → Q (.bl true) H'
def spWrite (K : PySem.W.Frag) (C : Addr) : Sp := fun vs H Q _ => ∃ (v : V) (sa : Addr) (S : Sc) (c s : Str), vs = [v, .ref sa] ∧ Dp K H v (rowD (.wr c s)) ∧ ScopeAt K H C sa S ∧ c ∈ S.sources ∧ isNm s = true ∧ ∀ H', Same H H' → Q (.bl true) H'
theorem in_of {z : Str} {ws : List Str} (h : z ∈ ws) : inV (.str z) (ws.map V.str) = true := by rw [inV_strs]; exact decide_eq_true h
section
variable {P : Program} {w : World} {K : PySem.W.Frag} {mg : Str → Option Value} {base : Heap}
theorem ok_scope (T : Tops w K mg) : FnOk P w K mg base CX0 1 T.a_Scope_init T.d_Scope_init ["self", "kind", "words", "sources", "readable"] (spScope T.c_Scope) := by
  refine T.F_Scope_init.ok sc_Scope_init (fun vs H Q E h => ?_) (fun cdv A outer s H vs Q E hr h => ?_)
  · obtain ⟨x, dx, aw, as, ar, kd, rfl, _⟩ := h
    rfl
  obtain ⟨x, dx, aw, as, ar, kd, rfl, hx, q⟩ := h
  refine ⟨_, (pss_cons (ps_fld (pv 0) (pv 1) rfl)
    (pss_cons (ps_fld (pv 0) (pv 2) rfl)
    (pss_cons (ps_fld (pv 0) (pv 3) rfl)
    (pss_one (ps_fld (pv 0) (pv 4) rfl))))), ?_⟩
  refine ⟨_, rfl, _, rfl, x, T.c_Scope, dx, [], rfl, hx, T.l_Scope, T.n_Scope_kind, by show 0 < 1000; decide, ?_⟩
  refine ⟨_, rfl, _, rfl, x, T.c_Scope, dx, _, rfl, upd_same, T.l_Scope, T.n_Scope_words, by show 1 < 1000; decide, ?_⟩
  rw [upd_upd]
  refine ⟨_, rfl, _, rfl, x, T.c_Scope, dx, _, rfl, upd_same, T.l_Scope, T.n_Scope_sources, Nat.lt_of_le_of_lt (m := 2) (Nat.le_of_eq (by kernel_rfl)) (by decide), ?_⟩
  rw [upd_upd]
  refine ⟨_, rfl, _, rfl, x, T.c_Scope, dx, _, rfl, upd_same, T.l_Scope, T.n_Scope_readable, Nat.lt_of_le_of_lt (m := 3) (Nat.le_of_eq (by kernel_rfl)) (by decide), ?_⟩
  rw [upd_upd, scF_put]
  exact q
theorem ok_read (T : Tops w K mg) (G_is_name : FnOk P w K mg base CX0 1 T.a_is_name T.d_is_name ["value"] spIsName) : FnOk P w K mg base CX0 2 T.a_is_read_row T.d_is_read_row ["row", "scope"] (spRead K T.c_Scope) := by
  refine T.F_is_read_row.ok sc_is_read_row (fun vs H Q E h => ?_) (fun cdv A outer s H vs Q E hr h => ?_)
  · obtain ⟨v, sa, S, pk, c, s, rfl, _⟩ := h
    rfl
  obtain ⟨v, sa, S, pk, c, sl, rfl, hD, hSc, hc, hs, q⟩ := h
  obtain ⟨a, rfl, hS⟩ := rd_at hD
  obtain ⟨dx, aw, as, ar, e, h1, h2, h3⟩ := hSc.ex
  refine ⟨_, (pss_one (ps_ret (pe_and (pe_cmpR op_eq (pe_callB call_len rfl T.z_len PySem.boot_len (pa_cons (pv 0) pa_nil)) pe_int (nomark _)) (pe_and (pe_cmpR op_in_seq (pe_ix ix_tup (pv 0) pe_int (fun _ _ => rfl)) (pe_fld (pv 1) rfl) (by rfl)) (pe_one (pe_call G_is_name (hr.mono (by omega)) rfl T.m_is_name T.F_is_name.kp T.b_is_name .nil pass0 (pa_cons (pe_ix ix_tup (pv 0) pe_int (fun _ _ => rfl)) pa_nil))))))), ?_⟩
  refine ⟨_, rfl, .ref a, _, rfl, .inr ⟨_, hS, rfl⟩, rfl, _, rfl, if_true_of (by show decide (V.int ((3 : Nat) : Int) = V.int 3) = true; decide +kernel) ?_⟩
  refine ⟨_, rfl, a, _, 1, _, rfl, rfl, hS, rfl, _, rfl, sa, _, dx, _, _, rfl, e, T.l_Scope, T.n_Scope_readable, scF_readable .., ar, _, rfl, .inr h3, rfl, L2.flat_strs _, _, rfl, if_true_of (in_of hc) ?_⟩
  exact ⟨_, rfl, a, _, 2, _, rfl, rfl, hS, rfl, sl, rfl, hs, q⟩
theorem ok_put (T : Tops w K mg) (G_is_name : FnOk P w K mg base CX0 1 T.a_is_name T.d_is_name ["value"] spIsName) : FnOk P w K mg base CX0 2 T.a_is_put_row T.d_is_put_row ["row", "scope"] (spPut K T.c_Scope) := by
  refine T.F_is_put_row.ok sc_is_put_row (fun vs H Q E h => ?_) (fun cdv A outer s H vs Q E hr h => ?_)
  · obtain ⟨v, sa, S, s, u, rfl, _⟩ := h
    rfl
  obtain ⟨v, sa, S, sl, u, rfl, hD, hSc, hc, hs, q⟩ := h
  obtain ⟨a, rfl, hS⟩ := put_at hD
  refine ⟨_, (pss_one (ps_ret (pe_and (pe_cmpR op_eq (pe_callB call_len rfl T.z_len PySem.boot_len (pa_cons (pv 0) pa_nil)) pe_int (nomark _)) (pe_and (pe_call G_is_name (hr.mono (by omega)) rfl T.m_is_name T.F_is_name.kp T.b_is_name .nil pass0 (pa_cons (pe_ix ix_tup (pv 0) pe_int (fun _ _ => rfl)) pa_nil)) (pe_one (pe_cmpR op_in_seq (pe_ix ix_tup (pv 0) pe_int (fun _ _ => rfl)) (pe_fld (pv 1) rfl) (by rfl))))))), ?_⟩
  refine ⟨_, rfl, .ref a, _, rfl, .inr ⟨_, hS, rfl⟩, rfl, _, rfl, if_true_of (by show decide (V.int ((3 : Nat) : Int) = V.int 3) = true; decide +kernel) ?_⟩
  refine ⟨_, rfl, a, _, 1, _, rfl, rfl, hS, rfl, sl, rfl, hs, fun H1 s1 => ⟨_, rfl, iteT ?_⟩⟩
  obtain ⟨dx, aw, as, ar, e, h1, h2, h3⟩ := (hSc.same s1).ex
  refine ⟨_, rfl, a, _, 2, _, rfl, rfl, SqT.same s1 hS, rfl, _, rfl, sa, _, dx, _, _, rfl, e, T.l_Scope, T.n_Scope_words, scF_words .., aw, _, rfl, .inr h1, rfl, L2.flat_strs _, ?_⟩
  show Q (.bl (inV _ _)) H1
  rw [in_of hc]
  exact q H1 s1
theorem ok_slot (T : Tops w K mg) (G_is_name : FnOk P w K mg base CX0 1 T.a_is_name T.d_is_name ["value"] spIsName) : FnOk P w K mg base CX0 2 T.a_is_slot_row T.d_is_slot_row ["row", "scope"] (spSlot K T.c_Scope) := by
  refine T.F_is_slot_row.ok sc_is_slot_row (fun vs H Q E h => ?_) (fun cdv A outer s H vs Q E hr h => ?_)
  · obtain ⟨v, sa, S, g, s, rfl, _⟩ := h
    rfl
  obtain ⟨v, sa, S, g, sl, rfl, hD, hSc, hs, q⟩ := h
  obtain ⟨a, tg, rfl, hS⟩ : ∃ (a : Addr) (tg : Str), v = .ref a ∧ SqT K H a [.str tg, .str sl] := by
    cases g with
    | true => obtain ⟨a, e, h⟩ := give_at hD; exact ⟨a, _, e, h⟩
    | false => obtain ⟨a, e, h⟩ := say_at hD; exact ⟨a, _, e, h⟩
  refine ⟨_, (pss_one (ps_ret (pe_and (pe_cmpR op_eq (pe_callB call_len rfl T.z_len PySem.boot_len (pa_cons (pv 0) pa_nil)) pe_int (nomark _)) (pe_one (pe_call G_is_name (hr.mono (by omega)) rfl T.m_is_name T.F_is_name.kp T.b_is_name .nil pass0 (pa_cons (pe_ix ix_tup (pv 0) pe_int (fun _ _ => rfl)) pa_nil)))))), ?_⟩
  refine ⟨_, rfl, .ref a, _, rfl, .inr ⟨_, hS, rfl⟩, rfl, _, rfl, if_true_of (by show decide (V.int ((2 : Nat) : Int) = V.int 2) = true; decide +kernel) ?_⟩
  exact ⟨_, rfl, a, _, 1, _, rfl, rfl, hS, rfl, sl, rfl, hs, q⟩
theorem ok_write (T : Tops w K mg) (G_is_name : FnOk P w K mg base CX0 1 T.a_is_name T.d_is_name ["value"] spIsName) : FnOk P w K mg base CX0 2 T.a_is_write_row T.d_is_write_row ["row", "scope"] (spWrite K T.c_Scope) := by
  refine T.F_is_write_row.ok sc_is_write_row (fun vs H Q E h => ?_) (fun cdv A outer s H vs Q E hr h => ?_)
  · obtain ⟨v, sa, S, c, s, rfl, _⟩ := h
    rfl
  obtain ⟨v, sa, S, c, sl, rfl, hD, hSc, hc, hs, q⟩ := h
  obtain ⟨a, rfl, hS⟩ := wr_at hD
  obtain ⟨dx, aw, as, ar, e, h1, h2, h3⟩ := hSc.ex
  refine ⟨_, (pss_one (ps_ret (pe_and (pe_cmpR op_eq (pe_callB call_len rfl T.z_len PySem.boot_len (pa_cons (pv 0) pa_nil)) pe_int (nomark _)) (pe_and (pe_cmpR op_in_seq (pe_ix ix_tup (pv 0) pe_int (fun _ _ => rfl)) (pe_fld (pv 1) rfl) (by rfl)) (pe_one (pe_call G_is_name (hr.mono (by omega)) rfl T.m_is_name T.F_is_name.kp T.b_is_name .nil pass0 (pa_cons (pe_ix ix_tup (pv 0) pe_int (fun _ _ => rfl)) pa_nil))))))), ?_⟩
  refine ⟨_, rfl, .ref a, _, rfl, .inr ⟨_, hS, rfl⟩, rfl, _, rfl, if_true_of (by show decide (V.int ((3 : Nat) : Int) = V.int 3) = true; decide +kernel) ?_⟩
  refine ⟨_, rfl, a, _, 1, _, rfl, rfl, hS, rfl, _, rfl, sa, _, dx, _, _, rfl, e, T.l_Scope, T.n_Scope_sources, scF_sources .., as, _, rfl, .inr h2, rfl, L2.flat_strs _, _, rfl, if_true_of (in_of hc) ?_⟩
  exact ⟨_, rfl, a, _, 2, _, rfl, rfl, hS, rfl, sl, rfl, hs, q⟩
theorem ok_if (T : Tops w K mg) (G_is_name : FnOk P w K mg base CX0 1 T.a_is_name T.d_is_name ["value"] spIsName) : FnOk P w K mg base CX0 2 T.a_is_if_row T.d_is_if_row ["row", "scope"] (spIf K T.c_Scope) := by
  refine T.F_is_if_row.ok sc_is_if_row (fun vs H Q E h => ?_) (fun cdv A outer s H vs Q E hr h => ?_)
  · obtain ⟨v, sa, S, s, u, y, n, rfl, _⟩ := h
    rfl
  obtain ⟨v, sa, S, sl, u, y, n, rfl, hD, hSc, hc, hs, q⟩ := h
  obtain ⟨a, vy, vn, rfl, hS, hy, hn⟩ := ite_at hD
  refine ⟨_, (pss_cons (ps_if (PW.pt (pw_or (pt_cmpR op_ne (pe_callB call_len rfl T.z_len PySem.boot_len (pa_cons (pv 0) pa_nil)) pe_int (nomark _)) (pw_or (pt_not (pt_val (pe_call G_is_name (hr.mono (by omega)) rfl T.m_is_name T.F_is_name.kp T.b_is_name .nil pass0 (pa_cons (pe_ix ix_tup (pv 0) pe_int (fun _ _ => rfl)) pa_nil)))) (pw_or1 (pt_cmpR op_notIn_seq (pe_ix ix_tup (pv 0) pe_int (fun _ _ => rfl)) (pe_fld (pv 1) rfl) (by rfl)))))) (pss_one (ps_ret pe_bl)) pss_nil)
    (pss_one (ps_ret (pe_and (pe_callB call_isi rfl T.z_isinstance (by decide +kernel) (pa_cons (pe_ix ix_tup (pv 0) pe_int (fun _ _ => rfl)) (pa_cons (pe_bltn (v := .ty "tuple") rfl T.z_tuple (by decide +kernel) rfl) pa_nil))) (pe_one (pe_callB call_isi rfl T.z_isinstance (by decide +kernel) (pa_cons (pe_ix ix_tup (pv 0) pe_int (fun _ _ => rfl)) (pa_cons (pe_bltn (v := .ty "tuple") rfl T.z_tuple (by decide +kernel) rfl) pa_nil)))))))), ?_⟩
  refine ⟨_, rfl, .ref a, _, rfl, .inr ⟨_, hS, rfl⟩, rfl, _, rfl, if_false_of (by show (!decide (V.int ((5 : Nat) : Int) = V.int 5)) = false; decide +kernel) ?_⟩
  refine ⟨_, rfl, a, _, 1, _, rfl, rfl, hS, rfl, sl, rfl, hs, fun H1 s1 => ⟨_, rfl, iteF ?_⟩⟩
  obtain ⟨dx, aw, as, ar, e, h1, h2, h3⟩ := (hSc.same s1).ex
  have hS1 := SqT.same s1 hS
  refine ⟨_, rfl, a, _, 2, _, rfl, rfl, hS1, rfl, _, rfl, sa, _, dx, _, _, rfl, e, T.l_Scope, T.n_Scope_words, scF_words .., aw, _, rfl, .inr h1, rfl, L2.flat_strs _, _, rfl, if_false_of (by show (!inV _ _) = false; rw [in_of hc]; rfl) ?_⟩
  obtain ⟨ay, xy, rfl, hy1, _⟩ := Dp.tup_inv (Dp.same s1 hy)
  obtain ⟨an, xn, rfl, hn1, _⟩ := Dp.tup_inv (Dp.same s1 hn)
  refine ⟨_, rfl, a, _, 3, _, rfl, rfl, hS1, rfl, .ref ay, .ty "tuple", .type "tuple", .type "tuple", true, rfl, .ty _, ty_tup hy1, kit_ty (by decide +kernel), _, rfl, iteT ?_⟩
  exact ⟨_, rfl, a, _, 4, _, rfl, rfl, hS1, rfl, .ref an, .ty "tuple", .type "tuple", .type "tuple", true, rfl, .ty _, ty_tup hn1, kit_ty (by decide +kernel), q H1 s1⟩
/-- which function judges a row -/
def fitF (T : Tops w K mg) : Td.Row → Addr
  | .rd .. => T.a_is_read_row
  | .put .. => T.a_is_put_row
  | .give .. => T.a_is_slot_row
  | .say .. => T.a_is_slot_row
  | .wr .. => T.a_is_write_row
  | .ite .. => T.a_is_if_row
def spCheckOf (T : Tops w K mg) : Sp := fun vs H Q _ => ∃ (S : Sc) (dep : Nat) (r : Td.Row), vs = [.str (kdS S.eff), .str (rowTag r)] ∧ okR S dep r ∧ Q (.ref (fitF T r)) H
theorem ok_check_of (T : Tops w K mg) : FnOk P w K mg base CX0 1 T.a_check_of T.d_check_of ["kind", "form"] (spCheckOf T) := by
  refine T.F_check_of.ok sc_check_of (fun vs H Q E h => ?_) (fun cdv A outer s H vs Q E hr h => ?_)
  · obtain ⟨S, dep, r, rfl, _⟩ := h
    rfl
  obtain ⟨S, dep, r, rfl, hok, q⟩ := h
  refine ⟨_, (pss_cons (ps_if (pt_cmpR op_eq (pv 0) pe_str (nomark _)) (pss_one (ps_ret (pe_kget (pe_glob (v := .ref T.a_DERIVED_FORMS) rfl T.c_DERIVED_FORMS rfl) (pv 1) ⟨rfl, rfl, rfl, rfl⟩))) pss_nil)
    (pss_one (ps_ret (pe_kget (pe_glob (v := .ref T.a_EFFECT_FORMS) rfl T.c_EFFECT_FORMS rfl) (pv 1) ⟨rfl, rfl, rfl, rfl⟩)))), ?_⟩
  refine ⟨_, rfl, rfl, _, rfl, ?_⟩
  obtain ⟨eff, ws, so, rd⟩ := S
  cases eff with
  | false =>
    refine if_true_of (by show decide (V.str "derived" = V.str "derived") = true; decide +kernel) ?_
    refine ⟨T.a_DERIVED_FORMS, rfl, T.w_DERIVED_FORMS, _, rfl, _, rfl, .inl ⟨_, ?_, q⟩⟩
    cases r with
    | rd pk c s =>
      unfold okR at hok
      cases pk with
      | false => exact T.w_DERIVED_FORMS_read
      | true => exact nomatch hok.1 rfl
    | put s u => exact T.w_DERIVED_FORMS_put
    | give s => exact T.w_DERIVED_FORMS_give
    | say s => unfold okR at hok; exact nomatch hok.1
    | wr c s => unfold okR at hok; exact nomatch hok.1
    | ite s u y n => exact T.w_DERIVED_FORMS_if
  | true =>
    refine if_false_of (by show decide (V.str "effects" = V.str "derived") = false; decide +kernel) ?_
    refine ⟨T.a_EFFECT_FORMS, rfl, T.w_EFFECT_FORMS, _, rfl, _, rfl, .inl ⟨_, ?_, q⟩⟩
    cases r with
    | rd pk c s =>
      cases pk with
      | false => exact T.w_EFFECT_FORMS_read
      | true => exact T.w_EFFECT_FORMS_peek
    | put s u => exact T.w_EFFECT_FORMS_put
    | give s => unfold okR at hok; exact nomatch hok.1
    | say s => exact T.w_EFFECT_FORMS_say
    | wr c s => exact T.w_EFFECT_FORMS_write
    | ite s u y n => exact T.w_EFFECT_FORMS_if
end
end K07
namespace K07
open PySem PySem.Spec PyProof.Rows L2 Td
def fitS (K : PySem.W.Frag) {w : World} {mg : Str → Option Value} (T : Tops w K mg) : Addr → Sp → Prop := fun f sp =>
  (f = T.a_is_read_row ∧ sp = spRead K T.c_Scope) ∨ (f = T.a_is_put_row ∧ sp = spPut K T.c_Scope) ∨ (f = T.a_is_slot_row ∧ sp = spSlot K T.c_Scope) ∨ (f = T.a_is_write_row ∧ sp = spWrite K T.c_Scope) ∨ (f = T.a_is_if_row ∧ sp = spIf K T.c_Scope)
def spValid (K : PySem.W.Frag) (C : Addr) : Sp := fun vs H Q _ => ∃ (v : V) (sa : Addr) (S : Sc) (dep : Nat) (r : Td.Row), vs = [v, .ref sa, .int (dep : Nat)] ∧ Dp K H v (rowD r) ∧ ScopeAt K H C sa S ∧ okR S dep r ∧ ∀ H', Same H H' → Q (.bl true) H'
def spFirst (K : PySem.W.Frag) (C : Addr) (n : Nat) : Sp := fun vs H Q _ => ∃ (v : V) (sa b : Addr) (bs : List V) (S : Sc) (dep : Nat) (rs : List Td.Row), vs = [v, .ref sa, .ref b, .int (dep : Nat)] ∧ Dp K H v (.tuple (rowsD rs)) ∧ ScopeAt K H C sa S ∧
  SqT K H b bs ∧ bs.length ≤ 2 + 2 * dep ∧ bs ≠ [] ∧ okRs S dep rs ∧ dep ≤ 4 ∧ 5 ≤ dep + n ∧ ∀ H', Same H H' → Q .non H'
def spPaths (K : PySem.W.Frag) (n : Nat) : Sp := fun vs H Q _ => ∃ (v : V) (b : Addr) (bs : List V) (S : Sc) (dep : Nat) (rs : List Td.Row), vs = [v, .ref b] ∧ Dp K H v (.tuple (rowsD rs)) ∧
  SqT K H b bs ∧ bs.length ≤ 2 + 2 * dep ∧ bs ≠ [] ∧ okRs S dep rs ∧ cnts rs ≤ 100 ∧ dep ≤ 4 ∧ 5 ≤ dep + n ∧ ∀ (p : Addr) (xs : List V) H', Same H H' → H p = none → H' p = some (.lst xs) → xs.length = cnts rs → Q (.ref p) H'
def spBody (K : PySem.W.Frag) (C : Addr) : Sp := fun vs H Q _ => ∃ (v : V) (sa : Addr) (S : Sc) (rs : List Td.Row) (i : Int), vs = [v, .ref sa, .int i] ∧ Dp K H v (.tuple (rowsD rs)) ∧ ScopeAt K H C sa S ∧ okRs S 1 rs ∧ cnts rs ≤ 16 ∧
  ∀ H', Same H H' → Q .non H'
section
variable {P : Program} {w : World} {K : PySem.W.Frag} {mg : Str → Option Value} {base : Heap}
theorem fit_held (T : Tops w K mg)
    (G1 : FnOk P w K mg base CX0 2 T.a_is_read_row T.d_is_read_row ["row", "scope"] (spRead K T.c_Scope))
    (G2 : FnOk P w K mg base CX0 2 T.a_is_put_row T.d_is_put_row ["row", "scope"] (spPut K T.c_Scope))
    (G3 : FnOk P w K mg base CX0 2 T.a_is_slot_row T.d_is_slot_row ["row", "scope"] (spSlot K T.c_Scope))
    (G4 : FnOk P w K mg base CX0 2 T.a_is_write_row T.d_is_write_row ["row", "scope"] (spWrite K T.c_Scope))
    (G5 : FnOk P w K mg base CX0 2 T.a_is_if_row T.d_is_if_row ["row", "scope"] (spIf K T.c_Scope)) : ∀ f sp, fitS K T f sp → Held P w K mg base 2 f sp := by
  rintro f sp (⟨rfl, rfl⟩ | ⟨rfl, rfl⟩ | ⟨rfl, rfl⟩ | ⟨rfl, rfl⟩ | ⟨rfl, rfl⟩)
  · exact ⟨_, _, G1, T.F_is_read_row.kp, T.b_is_read_row⟩
  · exact ⟨_, _, G2, T.F_is_put_row.kp, T.b_is_put_row⟩
  · exact ⟨_, _, G3, T.F_is_slot_row.kp, T.b_is_slot_row⟩
  · exact ⟨_, _, G4, T.F_is_write_row.kp, T.b_is_write_row⟩
  · exact ⟨_, _, G5, T.F_is_if_row.kp, T.b_is_if_row⟩
theorem ok_valid (T : Tops w K mg) (hA : ∀ f sp, fitS K T f sp → Held P w K mg base 2 f sp)
    (G_check_of : FnOk P w K mg base CX0 1 T.a_check_of T.d_check_of ["kind", "form"] (spCheckOf T)) :
    FnOk P w K mg base CX0 3 T.a_is_valid_row T.d_is_valid_row ["row", "scope", "depth"] (spValid K T.c_Scope) := by
  refine T.F_is_valid_row.ok sc_is_valid_row (fun vs H Q E h => ?_) (fun cdv A outer s H vs Q E hr h => ?_)
  · obtain ⟨v, sa, S, dep, r, rfl, _⟩ := h
    rfl
  obtain ⟨v, sa, S, dep, r, rfl, hD, hSc, ok, q⟩ := h
  obtain ⟨a, xs, rfl, hS, h0⟩ := row_at hD
  obtain ⟨dx, aw, as, ar, e, h1, h2, h3⟩ := hSc.ex
  refine ⟨_, (pss_cons (ps_if (PW.pt (pw_or (pt_not (pt_val (pe_callB call_isi rfl T.z_isinstance (by decide +kernel) (pa_cons (pv 0) (pa_cons (pe_bltn (v := .ty "tuple") rfl T.z_tuple (by decide +kernel) rfl) pa_nil))))) (pw_or (pt_cmpR op_eq (pe_callB call_len rfl T.z_len PySem.boot_len (pa_cons (pv 0) pa_nil)) pe_int (nomark _)) (pw_or1 (pt_not (pt_val (pe_callB call_isi rfl T.z_isinstance (by decide +kernel) (pa_cons (pe_ix ix_tup (pv 0) pe_int (fun _ _ => rfl)) (pa_cons (pe_bltn (v := .ty "str") rfl T.z_str (by decide +kernel) rfl) pa_nil))))))))) (pss_one (ps_ret pe_bl)) pss_nil)
    (C8.pss_cut (ps_if (PW.pt (pw_and (pt_cmpR op_eq (pe_ix ix_tup (pv 0) pe_int (fun _ _ => rfl)) pe_str (nomark _)) (pw_and1 (pt_cmpR op_gt (pv 2) (pe_glob (v := .int 3) rfl T.c_DEEPEST_IF ⟨_, rfl⟩) (nomark _))))) (pss_one (ps_ret pe_bl)) pss_nil)
    (pss_cons (ps_set (i := 3) sc_is_valid_row.nd rfl (Or.inl rfl) (pe_call G_check_of (hr.mono (by omega)) rfl T.m_check_of T.F_check_of.kp T.b_check_of .nil pass0 (pa_cons (pe_fld (pv 1) rfl) (pa_cons (pe_ix ix_tup (pv 0) pe_int (fun _ _ => rfl)) pa_nil))))
    (pss_one (ps_ret (pe_and (pe_cmpR op_notN (pv 3) pe_non (nomark _)) (pe_one (pe_callR (i := 3) (S := fitS K T) hA (hr.mono (by omega)) rfl (Or.inl rfl) (pa_cons (pv 0) (pa_cons (pv 1) pa_nil)))))))))), ?_⟩
  have hx : 0 < xs.length := (List.getElem?_eq_some_iff.mp h0).1
  have a0 : atI xs 0 = some (.str (rowTag r)) := atI_nat (j := 0) h0
  refine ⟨_, rfl, .ref a, .ty "tuple", .type "tuple", .type "tuple", true, rfl, .ty _, ty_tup hS, kit_ty (by decide +kernel), true, rfl, iteF ?_⟩
  refine ⟨_, rfl, .ref a, _, rfl, .inr ⟨_, hS, rfl⟩, rfl, _, rfl, if_false_of (decide_eq_false (fun h => by injection h; omega)) ?_⟩
  refine ⟨_, rfl, a, _, 0, _, rfl, rfl, hS, a0, .str (rowTag r), .ty "str", .type "str", .type "str", true, rfl, .ty _, .base (.str _), kit_ty (by decide +kernel), true, rfl, if_false_of rfl ?_⟩
  refine ⟨fun σ' H' => H' = H ∧ σ' = [some (.ref a), some (.ref sa), some (.int (dep : Nat)), none], ?_, ?_⟩
  · refine ⟨_, rfl, a, _, 0, _, rfl, rfl, hS, a0, rfl, _, rfl, ?_⟩
    cases hi : isIte r with
    | false => exact if_false_of ((tag_if r).trans hi) (iteF ⟨rfl, rfl⟩)
    | true =>
      refine if_true_of ((tag_if r).trans hi) ?_
      have h3' : dep ≤ 3 := by
        cases r with
        | ite s u y n => unfold okR at ok; exact ok.1
        | _ => cases hi
      refine ⟨_, rfl, _, _, rfl, rfl, _, rfl, if_false_of (decide_eq_false (by omega)) ⟨rfl, rfl⟩⟩
  rintro σ' H' ⟨rfl, rfl⟩
  refine ⟨_, rfl, sa, _, dx, _, _, rfl, e, T.l_Scope, T.n_Scope_kind, scF_kind .., _, rfl, a, _, 0, _, rfl, rfl, hS, a0, S, dep, r, rfl, ok, ?_⟩
  refine ⟨_, rfl, rfl, _, rfl, if_true_of (by rfl) ?_⟩
  cases r with
  | rd pk c s => unfold okR at ok; exact ⟨_, _, rfl, .inl ⟨rfl, rfl⟩, _, rfl, _, rfl, _, sa, S, pk, c, s, rfl, hD, hSc, ok.2.1, ok.2.2, q⟩
  | put s u => unfold okR at ok; exact ⟨_, _, rfl, .inr (.inl ⟨rfl, rfl⟩), _, rfl, _, rfl, _, sa, S, s, u, rfl, hD, hSc, ok.2, ok.1, q⟩
  | give s => unfold okR at ok; exact ⟨_, _, rfl, .inr (.inr (.inl ⟨rfl, rfl⟩)), _, rfl, _, rfl, _, sa, S, true, s, rfl, hD, hSc, ok.2, q⟩
  | say s => unfold okR at ok; exact ⟨_, _, rfl, .inr (.inr (.inl ⟨rfl, rfl⟩)), _, rfl, _, rfl, _, sa, S, false, s, rfl, hD, hSc, ok.2, q⟩
  | wr c s => unfold okR at ok; exact ⟨_, _, rfl, .inr (.inr (.inr (.inl ⟨rfl, rfl⟩))), _, rfl, _, rfl, _, sa, S, c, s, rfl, hD, hSc, ok.2.1, ok.2.2, q⟩
  | ite s u y n => unfold okR at ok; exact ⟨_, _, rfl, .inr (.inr (.inr (.inr ⟨rfl, rfl⟩))), _, rfl, _, rfl, _, sa, S, s, u, y, n, rfl, hD, hSc, ok.2.2.1, ok.2.1, q⟩
theorem ok_first1 (T : Tops w K mg) {n : Nat} (hn3 : 3 ≤ n) (G_is_valid_row : FnOk P w K mg base CX0 3 T.a_is_valid_row T.d_is_valid_row ["row", "scope", "depth"] (spValid K T.c_Scope))
    (G_first_wrong_path : FnOk P w K mg base CX0 n T.a_first_wrong_path T.d_first_wrong_path ["rows", "scope", "base", "depth"] (spFirst K T.c_Scope (n - 3))) :
    FnOk P w K mg base CX0 (n + 1) T.a_first_wrong_path T.d_first_wrong_path ["rows", "scope", "base", "depth"] (spFirst K T.c_Scope (n - 3 + 1)) := by
  refine T.F_first_wrong_path.ok sc_first_wrong_path (fun vs H Q E h => ?_) (fun cdv A outer s H vs Q E hr h => ?_)
  · obtain ⟨v, sa, b, bs, S, dep, rs, rfl, _⟩ := h
    rfl
  obtain ⟨v, sa, b, bs, S, dep, rs, rfl, hD, hSc, hB, hbl, hb0, ok, hdep, hn, q⟩ := h
  obtain ⟨a, xs, rfl, hS, hl, hx⟩ := rows_at hD
  refine ⟨_, (pss_cons (ps_for PassesOwn.never rfl (pi_enumT rfl T.z_enumerate (pa_cons (pv 0) pa_nil)) (pg_tup rfl (pgs_cons (pg_name (i := 4) sc_first_wrong_path.nd rfl (Or.inl rfl)) (pgs_cons (pg_name (i := 5) sc_first_wrong_path.nd rfl (Or.inl rfl)) pgs_nil))) (pss_cons (ps_set (i := 6) sc_first_wrong_path.nd rfl (Or.inl rfl) (pe_op op_catA (pv 2) (pe_tup (pa_cons (pv 4) pa_nil))))
    (pss_cons (ps_if (pt_not (pt_val (pe_call G_is_valid_row (hr.mono (by omega)) rfl T.m_is_valid_row T.F_is_valid_row.kp T.b_is_valid_row .nil pass0 (pa_cons (pv 5) (pa_cons (pv 1) (pa_cons (pv 3) pa_nil)))))) (pss_one (ps_ret (pv 6))) pss_nil)
    (pss_one (ps_if (pt_cmpR op_eq (pe_ix ix_tup (pv 5) pe_int (fun _ _ => rfl)) pe_str (nomark _)) (pss_one (ps_for PassesOwn.never rfl (pi_tup (pe_tup (pa_cons pe_int (pa_cons pe_int pa_nil)))) (pg_name (i := 7) sc_first_wrong_path.nd rfl (Or.inl rfl)) (pss_cons (ps_set (i := 8) sc_first_wrong_path.nd rfl (Or.inl rfl) (pe_call G_first_wrong_path (hr.mono (by omega)) rfl T.m_first_wrong_path T.F_first_wrong_path.kp T.b_first_wrong_path .nil pass0 (pa_cons (pe_ix ix_tup (pv 5) (pe_op op_add pe_int (pv 7)) (fun _ _ => rfl)) (pa_cons (pv 1) (pa_cons (pe_op op_catA (pv 6) (pe_tup (pa_cons (pv 7) pa_nil))) (pa_cons (pe_op op_add (pv 3) pe_int) pa_nil))))))
    (pss_one (ps_if (pt_cmpR op_notN (pv 8) pe_non (nomark _)) (pss_one (ps_ret (pv 8))) pss_nil))))) pss_nil)))))
    (pss_one (ps_ret pe_non))), ?_⟩
  refine ⟨_, rfl, a, _, rfl, hS, for_enumT (K := K) (a := a) (xs := xs) (fun i σ H' => ∃ v4 v5 v6 v7 v8 : Option V, σ = [some (.ref a), some (.ref sa), some (.ref b), some (.int (dep : Nat)), v4, v5, v6, v7, v8] ∧ Same H H')
    ⟨none, none, none, none, none, rfl, Same.refl _⟩ (fun i σ H' _ ⟨_, _, _, _, _, _, hs⟩ => SqT.same hs hS) ?_ ?_⟩
  · rintro i x σ H1 t hi ⟨v4, v5, v6, v7, v8, rfl, hs⟩ ht
    obtain ⟨r, hr2, hDr⟩ := hx i x hi
    have okr := okRs_get ok hr2
    have hs1 : Same H (upd H1 t (.tup [.int (i : Nat), x])) := hs.trans (Same.new ht _)
    refine ⟨t, _, rfl, SqT.of upd_same, rfl, _, _, rfl, _, _, rfl, rfl, ?_⟩
    generalize upd H1 t (.tup [.int (i : Nat), x]) = H2 at hs1
    -- path = base + (place,)
    refine ⟨_, rfl, _, rfl, by show 1 ≤ sizeLine; decide, fun t1 ht1 => ?_⟩
    have hs2 := hs1.trans (Same.new ht1 (.tup [.int (i : Nat)]))
    refine ⟨b, t1, bs, _, rfl, rfl, SqT.same hs2 hB, SqT.of upd_same, Nat.le_of_lt (small1000 (by show bs.length + 1 ≤ 1000; omega)), fun e => absurd e hb0, fun _ e => (by cases e), fun _ _ pa hpa => ?_⟩
    have hs3 := hs2.trans (Same.new hpa (.tup (bs ++ [.int (i : Nat)])))
    have hP : SqT K (upd (upd H2 t1 (.tup [.int (i : Nat)])) pa (.tup (bs ++ [.int (i : Nat)]))) pa (bs ++ [.int (i : Nat)]) := SqT.of upd_same
    show tSeq _ _ _ _ (upd (upd H2 t1 (.tup [.int (i : Nat)])) pa (.tup (bs ++ [.int (i : Nat)])))
    generalize upd (upd H2 t1 (.tup [.int (i : Nat)])) pa (.tup (bs ++ [.int (i : Nat)])) = H3 at hs3 hP
    -- is_valid_row
    refine ⟨_, rfl, _, rfl, _, rfl, _, sa, S, dep, r, rfl, Dp.same hs3 hDr, hSc.same hs3, okr, fun H4 s4 => ⟨_, rfl, if_false_of rfl ?_⟩⟩
    have hs4 := hs3.trans s4
    cases hi2 : isIte r with
    | false =>
      obtain ⟨ar, ys, rfl, hSr, h0⟩ := row_at (Dp.same hs4 hDr)
      refine ⟨_, rfl, ar, _, 0, _, rfl, rfl, hSr, atI_nat (j := 0) h0, rfl, _, rfl, ?_⟩
      exact if_false_of ((tag_if r).trans hi2) ⟨_, _, _, v7, v8, rfl, hs4⟩
    | true =>
      cases r with
      | ite sl u y n' =>
        obtain ⟨ar, vy, vn, rfl, hSr, hy, hn'⟩ := ite_at (Dp.same hs4 hDr)
        unfold okR at okr
        refine ⟨_, rfl, ar, _, 0, _, rfl, rfl, hSr, rfl, rfl, _, rfl, ?_⟩
        refine if_true_of (by decide +kernel) ?_
        refine ⟨by show 2 ≤ sizeLine; decide, fun tb htb => ?_⟩
        have hs5 := Same.new htb (.tup [.int 0, .int 1])
        refine ⟨tb, rfl, ⟨_, SqT.of upd_same⟩, for_tup (K := K) (a := tb) (xs := [.int 0, .int 1]) (fun j σ H' => ∃ v7 v8 : Option V, σ = [some (.ref a), some (.ref sa), some (.ref b), some (.int (dep : Nat)), some (.int (i : Nat)), some (.ref ar), some (.ref pa), v7, v8] ∧ Same (upd H4 tb (.tup [.int 0, .int 1])) H')
          ⟨v7, v8, rfl, Same.refl _⟩ (fun j σ H' _ ⟨_, _, _, h⟩ => SqT.of (h _ _ upd_same)) ?_ ?_⟩
        · rintro j x σ H5 hj ⟨v7, v8, rfl, h5⟩
          have h45 := hs5.trans h5
          have h05 := hs4.trans h45
          obtain ⟨k, vk, rk, rfl, hk, hDk, okk⟩ : ∃ (k : Nat) (vk : V) (rk : List Td.Row), x = .int (k : Nat) ∧ atI [V.str "if", .str sl, .str u, vy, vn] (3 + (k : Int)) = some vk ∧ Dp K H4 vk (.tuple (rowsD rk)) ∧ okRs S (dep + 1) rk := by
            match j, hj with
            | 0, hj => cases hj; exact ⟨0, vy, y, rfl, rfl, hy, okr.2.2.2.1⟩
            | 1, hj => cases hj; exact ⟨1, vn, n', rfl, rfl, hn', okr.2.2.2.2⟩
            | j + 2, hj => simp at hj
          refine ⟨_, rfl, _, rfl, _, _, rfl, rfl, ar, _, _, _, rfl, rfl, SqT.same h45 hSr, hk, _, rfl, _, rfl, _, rfl, by show 1 ≤ sizeLine; decide, fun t2 ht2 => ?_⟩
          have s52 := Same.new ht2 (.tup [.int (k : Nat)])
          have hP5 := SqT.same ((s4.trans h45).trans s52) hP
          refine ⟨pa, t2, _, _, rfl, rfl, hP5, SqT.of upd_same, Nat.le_of_lt (small1000 (by rw [List.length_append]; show bs.length + 1 + 1 ≤ 1000; omega)), fun e => (by simp at e), fun _ e => (by cases e), fun _ _ t3 ht3 => ?_⟩
          have s53 := s52.trans (Same.new ht3 (.tup (bs ++ [.int (i : Nat)] ++ [.int (k : Nat)])))
          refine ⟨_, rfl, _, _, rfl, rfl, vk, sa, t3, _, S, dep + 1, rk, rfl, Dp.same (h45.trans s53) hDk, hSc.same (h05.trans s53), SqT.of upd_same, by simp; omega, by simp, okk, by omega, by omega, fun H6 s6 => ?_⟩
          refine ⟨_, rfl, rfl, _, rfl, if_false_of rfl ⟨_, _, rfl, h5.trans (s53.trans s6)⟩⟩
        · rintro σ H5 ⟨v7, v8, rfl, h5⟩
          exact ⟨_, _, _, v7, v8, rfl, hs4.trans (hs5.trans h5)⟩
      | _ => cases hi2
  · rintro σ H1 ⟨v4, v5, v6, v7, v8, rfl, hs⟩
    exact q H1 hs
theorem ok_first (T : Tops w K mg) (G1 : FnOk P w K mg base CX0 3 T.a_is_valid_row T.d_is_valid_row ["row", "scope", "depth"] (spValid K T.c_Scope)) :
    ∀ k, FnOk P w K mg base CX0 (k + 3) T.a_first_wrong_path T.d_first_wrong_path ["rows", "scope", "base", "depth"] (spFirst K T.c_Scope k)
  | 0 => by
    have no : ∀ vs H Q E, ¬ spFirst K T.c_Scope 0 vs H Q E := fun vs H Q E h => by
      obtain ⟨_, _, _, _, _, dep, _, _, _, _, _, _, _, _, h1, h2, _⟩ := h
      omega
    exact ⟨fun vs H Q E h => absurd h (no vs H Q E), fun A outer s H args us vs Q E _ _ _ _ h => absurd h (no vs H Q E)⟩
  | k + 1 => ok_first1 T (n := k + 3) (by omega) G1 (ok_first T G1 k)
end
end K07
namespace K07
open PySem PySem.Spec PyProof.Rows L2 Td
theorem Same.own {H H' : Hp} {p : Addr} {o : HO} (k : Same H H') (h : H p = none) : Same H (upd H' p o) := fun b u e => by
  rw [upd_ne (ne_of_none e h)]; exact k b u e
theorem cnts_get {rs : List Td.Row} {i : Nat} {r : Td.Row} (h : rs[i]? = some r) : cnt r + cnts (rs.take i) ≤ cnts rs := by
  have e : cnts rs = cnts (rs.take (i + 1)) + cnts (rs.drop (i + 1)) := by rw [← cnts_append, List.take_append_drop]
  rw [e, cnts_take h]; omega
section
variable {P : Program} {w : World} {K : PySem.W.Frag} {mg : Str → Option Value} {base : Heap}
theorem ok_paths1 (T : Tops w K mg) {n : Nat} (G_paths_of_rows : FnOk P w K mg base CX0 n T.a_paths_of_rows T.d_paths_of_rows ["rows", "base"] (spPaths K n)) :
    FnOk P w K mg base CX0 (n + 1) T.a_paths_of_rows T.d_paths_of_rows ["rows", "base"] (spPaths K (n + 1)) := by
  refine T.F_paths_of_rows.ok sc_paths_of_rows (fun vs H Q E h => ?_) (fun cdv A outer s H vs Q E hr h => ?_)
  · obtain ⟨v, b, bs, S, dep, rs, rfl, _⟩ := h
    rfl
  obtain ⟨v, b, bs, S, dep, rs, rfl, hD, hB, hbl, hb0, ok, hcn, hdep, hn, q⟩ := h
  obtain ⟨a, xs, rfl, hS, hl, hx⟩ := rows_at hD
  refine ⟨_, (pss_cons (ps_set (i := 2) sc_paths_of_rows.nd rfl (Or.inl rfl) (pe_lst pa_nil))
    (pss_cons (ps_for PassesOwn.never rfl (pi_enumT rfl T.z_enumerate (pa_cons (pv 0) pa_nil)) (pg_tup rfl (pgs_cons (pg_name (i := 3) sc_paths_of_rows.nd rfl (Or.inl rfl)) (pgs_cons (pg_name (i := 4) sc_paths_of_rows.nd rfl (Or.inl rfl)) pgs_nil))) (pss_cons (ps_set (i := 5) sc_paths_of_rows.nd rfl (Or.inl rfl) (pe_op op_catA (pv 1) (pe_tup (pa_cons (pv 3) pa_nil))))
    (pss_cons (ps_expr (pe_bm PySem.F.plainAttrs_list PySem.F.slot_list_append PySem.F.type_list_append mt_append (pv 2) (pa_cons (pv 5) pa_nil)))
    (pss_one (ps_if (pt_cmpR op_eq (pe_ix ix_tup (pv 4) pe_int (fun _ _ => rfl)) pe_str (nomark _)) (pss_one (ps_for PassesOwn.never rfl (pi_tup (pe_tup (pa_cons pe_int (pa_cons pe_int pa_nil)))) (pg_name (i := 6) sc_paths_of_rows.nd rfl (Or.inl rfl)) (pss_one (ps_expr (pe_bm PySem.F.plainAttrs_list PySem.F.slot_list_extend PySem.F.type_list_extend mt_extend (pv 2) (pa_cons (pe_call G_paths_of_rows (hr.mono (by omega)) rfl T.m_paths_of_rows T.F_paths_of_rows.kp T.b_paths_of_rows .nil pass0 (pa_cons (pe_ix ix_tup (pv 4) (pe_op op_add pe_int (pv 6)) (fun _ _ => rfl)) (pa_cons (pe_op op_catA (pv 5) (pe_tup (pa_cons (pv 6) pa_nil))) pa_nil))) pa_nil)))))) pss_nil)))))
    (pss_one (ps_ret (pv 2))))), ?_⟩
  refine ⟨by show 0 ≤ sizeLine; decide, fun p hp => ?_⟩
  refine ⟨_, rfl, a, _, rfl, SqT.same (Same.new hp _) hS, for_enumT (K := K) (a := a) (xs := xs) (fun i σ H' => ∃ (v4 v5 v6 v7 : Option V) (ys : List V), σ = [some (.ref a), some (.ref b), some (.ref p), v4, v5, v6, v7] ∧ Same H H' ∧ H' p = some (.lst ys) ∧ ys.length = cnts (rs.take i))
    ⟨none, none, none, none, [], rfl, Same.new hp _, upd_same, rfl⟩ (fun i σ H' _ ⟨_, _, _, _, _, _, hs, _⟩ => SqT.same hs hS) ?_ ?_⟩
  · rintro i x σ H1 t hi ⟨v4, v5, v6, v7, ys, rfl, hs, hy, hyl⟩ ht
    obtain ⟨r, hr2, hDr⟩ := hx i x hi
    have okr := okRs_get ok hr2
    have hcr := cnts_get hr2
    have hs1 : Same H (upd H1 t (.tup [.int (i : Nat), x])) := hs.trans (Same.new ht _)
    have hy1 : upd H1 t (.tup [.int (i : Nat), x]) p = some (.lst ys) := Same.new ht _ _ _ hy
    refine ⟨t, _, rfl, SqT.of upd_same, rfl, _, _, rfl, _, _, rfl, rfl, ?_⟩
    generalize upd H1 t (.tup [.int (i : Nat), x]) = H2 at hs1 hy1
    refine ⟨_, rfl, _, rfl, by show 1 ≤ sizeLine; decide, fun t1 ht1 => ?_⟩
    have hs2 := hs1.trans (Same.new ht1 (.tup [.int (i : Nat)]))
    have hy2 := Same.new ht1 (.tup [.int (i : Nat)]) _ _ hy1
    refine ⟨b, t1, bs, _, rfl, rfl, SqT.same hs2 hB, SqT.of upd_same, Nat.le_of_lt (small1000 (by show bs.length + 1 ≤ 1000; omega)), fun e => absurd e hb0, fun _ e => (by cases e), fun _ _ pa hpa => ?_⟩
    have hs3 := hs2.trans (Same.new hpa (.tup (bs ++ [.int (i : Nat)])))
    have hy3 := Same.new hpa (.tup (bs ++ [.int (i : Nat)])) _ _ hy2
    have hP : SqT K (upd (upd H2 t1 (.tup [.int (i : Nat)])) pa (.tup (bs ++ [.int (i : Nat)]))) pa (bs ++ [.int (i : Nat)]) := SqT.of upd_same
    show tSeq _ _ _ _ (upd (upd H2 t1 (.tup [.int (i : Nat)])) pa (.tup (bs ++ [.int (i : Nat)])))
    generalize upd (upd H2 t1 (.tup [.int (i : Nat)])) pa (.tup (bs ++ [.int (i : Nat)])) = H3 at hs3 hP hy3
    -- append
    have hyb : ys.length ≤ 100 := by omega
    refine ⟨_, rfl, .inl ⟨rfl, _, SqL.of hy3⟩, _, rfl, p, ys, _, rfl, rfl, hy3, small1000 (by omega), ?_⟩
    have hs4 : Same H (upd H3 p (.lst (ys ++ [.ref pa]))) := Same.own hs3 hp
    have hP4 : SqT K (upd H3 p (.lst (ys ++ [.ref pa]))) pa (bs ++ [.int (i : Nat)]) := SqT.tk (TK.upd (by rw [hy3]; trivial)) hP
    have hy4 : upd H3 p (.lst (ys ++ [.ref pa])) p = some (.lst (ys ++ [.ref pa])) := upd_same
    have hl4 : (ys ++ [V.ref pa]).length = cnts (rs.take i) + 1 := by rw [List.length_append, hyl]; rfl
    generalize upd H3 p (.lst (ys ++ [.ref pa])) = H4 at hs4 hP4 hy4
    generalize ys ++ [V.ref pa] = ys4 at hy4 hl4
    cases hi2 : isIte r with
    | false =>
      obtain ⟨ar, zs, rfl, hSr, h0⟩ := row_at (Dp.same hs4 hDr)
      refine ⟨_, rfl, ar, _, 0, _, rfl, rfl, hSr, atI_nat (j := 0) h0, rfl, _, rfl, ?_⟩
      exact if_false_of ((tag_if r).trans hi2) ⟨_, _, _, v7, ys4, rfl, hs4, hy4, by rw [cnts_take hr2, cnt_flat hi2, hl4]⟩
    | true =>
      cases r with
      | ite sl u y n' =>
        obtain ⟨ar, vy, vn, rfl, hSr, hyD, hnD⟩ := ite_at hDr
        unfold okR at okr
        have ecn : Td.cnt (Td.Row.ite sl u y n') = 1 + cnts y + cnts n' := by unfold Td.cnt; rfl
        refine ⟨_, rfl, ar, _, 0, _, rfl, rfl, SqT.same hs4 hSr, rfl, rfl, _, rfl, ?_⟩
        refine if_true_of (by decide +kernel) ?_
        refine ⟨by show 2 ≤ sizeLine; decide, fun tb htb => ?_⟩
        have hs5 := Same.new htb (.tup [.int 0, .int 1])
        have htbS : SqT K (upd H4 tb (.tup [.int 0, .int 1])) tb [.int 0, .int 1] := SqT.of upd_same
        have hP5 := SqT.same hs5 hP4
        have hy5 := hs5 _ _ hy4
        have hs05 := hs4.trans hs5
        generalize upd H4 tb (.tup [.int 0, .int 1]) = H5 at hs5 htbS hP5 hy5 hs05
        refine ⟨tb, rfl, ⟨_, htbS⟩, for_tup (K := K) (a := tb) (xs := [.int 0, .int 1]) (fun j σ H' => ∃ (v7 : Option V) (zs : List V), σ = [some (.ref a), some (.ref b), some (.ref p), some (.int (i : Nat)), some (.ref ar), some (.ref pa), v7] ∧ Same H H' ∧ TK H5 H' ∧ H' p = some (.lst zs) ∧ zs.length = cnts (rs.take i) + 1 + (if j = 0 then 0 else cnts y) + (if j = 2 then cnts n' else 0))
          ⟨v7, ys4, rfl, hs05, TK.refl _, hy5, by rw [hl4]; simp⟩ (fun j σ H' _ ⟨_, _, _, _, tk, _⟩ => SqT.tk tk htbS) ?_ ?_⟩
        · rintro j x σ H6 hj ⟨v7, zs, rfl, h06, tk, hy6, hl6⟩
          have D1 : Dp K H6 vy (.tuple (rowsD y)) := Dp.same h06 hyD
          have D2 : Dp K H6 vn (.tuple (rowsD n')) := Dp.same h06 hnD
          obtain ⟨k, vk, rk, rfl, hk, hDk, okk, hck, hle, hjk⟩ : ∃ (k : Nat) (vk : V) (rk : List Td.Row), x = .int (k : Nat) ∧ atI [V.str "if", .str sl, .str u, vy, vn] (3 + (k : Int)) = some vk ∧ Dp K H6 vk (.tuple (rowsD rk)) ∧ okRs S (dep + 1) rk ∧ cnts rk ≤ 100 ∧ zs.length + cnts rk ≤ 100 ∧
              zs.length + cnts rk = cnts (rs.take i) + 1 + (if j + 1 = 0 then 0 else cnts y) + (if j + 1 = 2 then cnts n' else 0) := by
            match j, hj with
            | 0, hj => cases hj; exact ⟨0, vy, y, rfl, rfl, D1, okr.2.2.2.1, by omega, by rw [hl6]; simp; omega, by rw [hl6]; simp⟩
            | 1, hj => cases hj; exact ⟨1, vn, n', rfl, rfl, D2, okr.2.2.2.2, by omega, by rw [hl6]; simp; omega, by rw [hl6]; simp⟩
            | j + 2, hj => simp at hj
          refine ⟨_, rfl, .inl ⟨rfl, _, SqL.of hy6⟩, ?_⟩
          refine ⟨_, rfl, _, rfl, _, _, rfl, rfl, ar, _, _, _, rfl, rfl, SqT.same h06 hSr, hk, _, rfl, _, rfl, by show 1 ≤ sizeLine; decide, fun t2 ht2 => ?_⟩
          have s62 := Same.new ht2 (.tup [.int (k : Nat)])
          have hP6 := SqT.same s62 (SqT.tk tk hP5)
          refine ⟨pa, t2, _, _, rfl, rfl, hP6, SqT.of upd_same, Nat.le_of_lt (small1000 (by rw [List.length_append]; show bs.length + 1 + 1 ≤ 1000; omega)), fun e => (by simp at e), fun _ e => (by cases e), fun _ _ t3 ht3 => ?_⟩
          have s63 := s62.trans (Same.new ht3 (.tup (bs ++ [.int (i : Nat)] ++ [.int (k : Nat)])))
          refine ⟨vk, t3, _, S, dep + 1, rk, rfl, Dp.same s63 hDk, SqT.of upd_same, by simp; omega, by simp, okk, hck, by omega, by omega, fun p2 ws H7 s7 hp2 hw hwl => ?_⟩
          have hy7 := s7 _ _ (s63 _ _ hy6)
          have hn2 : p ≠ p2 := ne_of_none (s63 _ _ hy6) hp2
          refine ⟨p, p2, zs, ws, rfl, rfl, hy7, hw, Nat.le_of_lt (small1000 (by omega)), ?_⟩
          refine ⟨_, _, rfl, Same.own ((h06.trans s63).trans s7) hp, ?_, upd_same, ?_⟩
          · exact (tk.trans (TK.of_same (s63.trans s7))).trans (TK.upd (by rw [hy7]; trivial))
          · rw [List.length_append, hwl]; exact hjk
        · rintro σ H6 ⟨v7, zs, rfl, h06, tk, hy6, hl6⟩
          refine ⟨_, _, _, v7, zs, rfl, h06, hy6, ?_⟩
          rw [hl6, cnts_take hr2, ecn]
          simp
          omega
      | _ => cases hi2
  · rintro σ H1 ⟨v4, v5, v6, v7, ys, rfl, hs, hy, hyl⟩
    rw [hl, List.take_length] at hyl
    exact ⟨_, rfl, q p ys H1 hs hp hy hyl⟩
theorem ok_paths (T : Tops w K mg) : ∀ k, FnOk P w K mg base CX0 k T.a_paths_of_rows T.d_paths_of_rows ["rows", "base"] (spPaths K k)
  | 0 => by
    have no : ∀ vs H Q E, ¬ spPaths K 0 vs H Q E := fun vs H Q E h => by
      obtain ⟨_, _, _, _, dep, _, _, _, _, _, _, _, _, h1, h2, _⟩ := h
      omega
    exact ⟨fun vs H Q E h => absurd h (no vs H Q E), fun A outer s H args us vs Q E _ _ _ _ h => absurd h (no vs H Q E)⟩
  | k + 1 => ok_paths1 T (ok_paths T k)
end
end K07
namespace K07
open PySem PySem.Spec PyProof.Rows L2 Td
theorem cat_all {K : PySem.W.Frag} {H : Hp} {a b : Addr} {xs ys : List V} {Q : V → Hp → Prop} (hA : SqT K H a xs) (hB : SqT K H b ys) (hl : xs.length + ys.length ≤ sizeLine)
    (k : ∀ (p : Addr) H', Same H H' → SqT K H' p (xs ++ ys) → Q (.ref p) H') : rCatA K (.ref a) (.ref b) H Q := by
  refine ⟨a, b, xs, ys, rfl, rfl, hA, hB, hl, fun e => ?_, fun _ e => ?_, fun _ _ p hp => ?_⟩
  · subst e; exact k b H (Same.refl _) hB
  · subst e; exact k a H (Same.refl _) (by rw [List.append_nil]; exact hA)
  · exact k p _ (Same.new hp _) (SqT.of upd_same)
theorem okDer_get {words sources : List Str} {most : Nat} : ∀ {ps : List (Str × List Td.Row)} {rd : List Str} {i : Nat} {q : Str × List Td.Row}, okDer words sources most rd ps → ps[i]? = some q →
    okRs ⟨false, words, sources, rd ++ (ps.take i).map (·.1)⟩ 1 q.2 ∧ cnts q.2 ≤ most
  | [], rd, i, q, _, h => by simp at h
  | x :: ps, rd, 0, q, h, e => by
    unfold okDer at h
    simp at e; subst e
    exact ⟨by simpa using h.1, h.2.1.1⟩
  | x :: ps, rd, i + 1, q, h, e => by
    unfold okDer at h
    have := okDer_get (i := i) (q := q) h.2.2 (by simpa using e)
    simpa using this
theorem okEff_get {words sources rd : List Str} {most : Nat} : ∀ {ps : List (Str × List Td.Row)} {i : Nat} {q : Str × List Td.Row}, okEff words sources rd most ps → ps[i]? = some q →
    okRs ⟨true, words, sources, rd⟩ 1 q.2 ∧ cnts q.2 ≤ most
  | [], i, q, _, h => by simp at h
  | x :: ps, 0, q, h, e => by
    unfold okEff at h
    simp at e; subst e
    exact ⟨h.1, h.2.1.1⟩
  | x :: ps, i + 1, q, h, e => by
    unfold okEff at h
    exact okEff_get (i := i) (q := q) h.2.2 (by simpa using e)
theorem okDer_lim {words sources : List Str} {most : Nat} : ∀ {ps : List (Str × List Td.Row)} {rd : List Str} {q : Str × List Td.Row}, okDer words sources most rd ps → q ∈ ps → Lim false most q.2
  | [], rd, q, _, h => by cases h
  | x :: ps, rd, q, h, e => by
    unfold okDer at h
    rcases List.mem_cons.mp e with rfl | e
    · exact h.2.1
    · exact okDer_lim h.2.2 e
theorem okEff_lim {words sources rd : List Str} {most : Nat} : ∀ {ps : List (Str × List Td.Row)} {q : Str × List Td.Row}, okEff words sources rd most ps → q ∈ ps → Lim true most q.2
  | [], q, _, h => by cases h
  | x :: ps, q, h, e => by
    unfold okEff at h
    rcases List.mem_cons.mp e with rfl | e
    · exact h.2.1
    · exact okEff_lim h.2.2 e
theorem scope_made {K : PySem.W.Frag} {C x dx aw as ar : Addr} {S : Sc} {H : Hp} (hx : H x = none) (hdx : H dx = none) (hne : dx ≠ x) (h1 : SqT K H aw (S.words.map V.str)) (h2 : SqT K H as (S.sources.map V.str)) (h3 : SqT K H ar (S.readable.map V.str)) :
    ∃ H3, upd (upd (upd H dx (.own x)) x (.ins C dx [])) x (.ins C dx (scF (kdS S.eff) aw as ar)) = H3 ∧ Same H H3 ∧ ScopeAt K H3 C x S := by
  have hs : Same H (upd (upd H dx (.own x)) x (.ins C dx (scF (kdS S.eff) aw as ar))) := (Same.new hdx _).trans (Same.new (by rw [upd_ne (Ne.symm hne)]; exact hx) _)
  exact ⟨_, by rw [upd_upd], hs, ⟨dx, aw, as, ar, upd_same, SqT.same hs h1, SqT.same hs h2, SqT.same hs h3⟩⟩
theorem Tn.same {K : PySem.W.Frag} {H H' : Hp} {v : V} {d : PyData} (s : Same H H') (h : Tn K H v d) : Tn K H' v d := Tn.keep (TK.of_same s) h
/-- what the parts' checks take -/
def spBodies (K : PySem.W.Frag) : Sp := fun vs H Q _ => ∃ (aw as : Addr) (vd ve : V) (p : PP) (m : Nat), vs = [.ref aw, .ref as, vd, ve] ∧ SqT K H aw (p.words.map V.str) ∧ SqT K H as (p.sources.map V.str) ∧ Tn K H vd (pairsD p.derived) ∧ Tn K H ve (pairsD p.effects) ∧
  p.Ok m ∧ m ≤ 16 ∧ ∀ H', Same H H' → Q .non H'
def progF (aw as : Addr) (vd ve : V) (dn en : Addr) : List (Str × V) := [("words", .ref aw), ("sources", .ref as), ("derived", vd), ("effects", ve), ("_derived_names", .ref dn), ("_effect_names", .ref en)]
theorem progF_put (aw as : Addr) (vd ve : V) (dn en : Addr) : putF "_effect_names" (.ref en) (putF "_derived_names" (.ref dn) (putF "effects" ve (putF "derived" vd (putF "sources" (.ref as) (putF "words" (.ref aw) []))))) = progF aw as vd ve dn en := by kernel_rfl
theorem progF_words (aw as : Addr) (vd ve : V) (dn en : Addr) : (progF aw as vd ve dn en).lookup ("words" : Str) = some (.ref aw) := by kernel_rfl
theorem progF_sources (aw as : Addr) (vd ve : V) (dn en : Addr) : (progF aw as vd ve dn en).lookup ("sources" : Str) = some (.ref as) := by kernel_rfl
theorem progF_derived (aw as : Addr) (vd ve : V) (dn en : Addr) : (progF aw as vd ve dn en).lookup ("derived" : Str) = some vd := by kernel_rfl
theorem progF_effects (aw as : Addr) (vd ve : V) (dn en : Addr) : (progF aw as vd ve dn en).lookup ("effects" : Str) = some ve := by kernel_rfl
theorem progF_dn (aw as : Addr) (vd ve : V) (dn en : Addr) : (progF aw as vd ve dn en).lookup ("_derived_names" : Str) = some (.ref dn) := by kernel_rfl
theorem progF_en (aw as : Addr) (vd ve : V) (dn en : Addr) : (progF aw as vd ve dn en).lookup ("_effect_names" : Str) = some (.ref en) := by kernel_rfl
structure ProgAt (K : PySem.W.Frag) (H : Hp) (C pa : Addr) (p : PP) : Prop where
  ex : ∃ (dx aw as : Addr) (vd ve : V), (∃ (dn en : Addr), H pa = some (.ins C dx (progF aw as vd ve dn en)) ∧ SqT K H dn (p.derived.map fun q => V.str q.1) ∧ SqT K H en (p.effects.map fun q => V.str q.1)) ∧ SqT K H aw (p.words.map V.str) ∧ SqT K H as (p.sources.map V.str) ∧ Tn K H vd (pairsD p.derived) ∧ Tn K H ve (pairsD p.effects)
theorem ProgAt.same {K : PySem.W.Frag} {H H' : Hp} {C sa : Addr} {S : PP} (h : ProgAt K H C sa S) (s : Same H H') : ProgAt K H' C sa S := by
  obtain ⟨dx, aw, as, vd, ve, ⟨dn, en, e, hdn, hen⟩, h1, h2, h3, h4⟩ := h.ex
  exact ⟨dx, aw, as, vd, ve, ⟨dn, en, s _ _ e, SqT.same s hdn, SqT.same s hen⟩, SqT.same s h1, SqT.same s h2, Tn.same s h3, Tn.same s h4⟩
def spProgram (K : PySem.W.Frag) (C : Addr) : Sp := fun vs H Q _ => ∃ (x dx aw as : Addr) (vd ve : V) (p : PP) (m : Nat), vs = [.ref x, .ref aw, .ref as, vd, ve] ∧ H x = some (.ins C dx []) ∧ SqT K H aw (p.words.map V.str) ∧ SqT K H as (p.sources.map V.str) ∧ Tn K H vd (pairsD p.derived) ∧ Tn K H ve (pairsD p.effects) ∧
  p.Ok m ∧ m ≤ 16 ∧ ∀ (dn en : Addr) H', Same H H' → SqT K (upd H' x (.ins C dx (progF aw as vd ve dn en))) dn (p.derived.map fun q => V.str q.1) → SqT K (upd H' x (.ins C dx (progF aw as vd ve dn en))) en (p.effects.map fun q => V.str q.1) → Q .non (upd H' x (.ins C dx (progF aw as vd ve dn en)))
def spBodyOf (K : PySem.W.Frag) (C : Addr) : Sp := fun vs H Q _ => ∃ (pa : Addr) (z : Str) (p : PP) (m : Nat) (q : Str × List Td.Row), vs = [.ref pa, .str z] ∧ ProgAt K H C pa p ∧ p.Ok m ∧ q ∈ p.derived ++ p.effects ∧ q.1 = z ∧
  ∀ (v : V) H', Same H H' → Tn K H' v (.tuple (rowsD q.2)) → Q v H'
def spDerivedNames (K : PySem.W.Frag) (C : Addr) : Sp := fun vs H Q _ => ∃ (pa : Addr) (p : PP) (m : Nat), vs = [.ref pa] ∧ ProgAt K H C pa p ∧ p.Ok m ∧
  ∀ (t : Addr) H', Same H H' → SqT K H' t (p.derived.map fun q => V.str q.1) → Q (.ref t) H'
section
variable {P : Program} {w : World} {K : PySem.W.Frag} {mg : Str → Option Value} {base : Heap}
theorem ok_check_body (T : Tops w K mg) (G_first_wrong_path : FnOk P w K mg base CX0 7 T.a_first_wrong_path T.d_first_wrong_path ["rows", "scope", "base", "depth"] (spFirst K T.c_Scope 4))
    (G_paths_of_rows : FnOk P w K mg base CX0 4 T.a_paths_of_rows T.d_paths_of_rows ["rows", "base"] (spPaths K 4)) :
    FnOk P w K mg base CX0 8 T.a_check_body T.d_check_body ["rows", "scope", "index"] (spBody K T.c_Scope) := by
  refine T.F_check_body.ok sc_check_body (fun vs H Q E h => ?_) (fun cdv A outer s H vs Q E hr h => ?_)
  · obtain ⟨v, sa, S, rs, i, rfl, _⟩ := h
    rfl
  obtain ⟨v, sa, S, rs, i, rfl, hD, hSc, ok, hc, q⟩ := h
  obtain ⟨a, xs, rfl, hS, hl, hx⟩ := rows_at hD
  obtain ⟨dx, aw, as, ar, e, h1, h2, h3⟩ := hSc.ex
  refine ⟨_, (pss_cons (ps_set (i := 3) sc_check_body.nd rfl (Or.inl rfl) (pe_tup (pa_cons (pe_fld (pv 1) rfl) (pa_cons (pv 2) pa_nil))))
    (pss_cons (ps_if (pt_not (pt_val (pe_callB call_isi rfl T.z_isinstance (by decide +kernel) (pa_cons (pv 0) (pa_cons (pe_bltn (v := .ty "tuple") rfl T.z_tuple (by decide +kernel) rfl) pa_nil))))) (pss_one ps_never) pss_nil)
    (pss_cons (ps_set (i := 4) sc_check_body.nd rfl (Or.inl rfl) (pe_call G_first_wrong_path (hr.mono (by omega)) rfl T.m_first_wrong_path T.F_first_wrong_path.kp T.b_first_wrong_path .nil pass0 (pa_cons (pv 0) (pa_cons (pv 1) (pa_cons (pv 3) (pa_cons pe_int pa_nil))))))
    (pss_cons (ps_if (pt_cmpR op_notN (pv 4) pe_non (nomark _)) (pss_one ps_never) pss_nil)
    (pss_one (ps_if (pt_cmpR op_gt (pe_callB call_len rfl T.z_len PySem.boot_len (pa_cons (pe_call G_paths_of_rows (hr.mono (by omega)) rfl T.m_paths_of_rows T.F_paths_of_rows.kp T.b_paths_of_rows .nil pass0 (pa_cons (pv 0) (pa_cons (pv 3) pa_nil))) pa_nil)) (pe_glob (v := .int 16) rfl T.c_MOST_ROWS ⟨_, rfl⟩) (nomark _)) (pss_one ps_never) pss_nil)))))), ?_⟩
  refine ⟨_, rfl, sa, _, dx, _, _, rfl, e, T.l_Scope, T.n_Scope_kind, scF_kind .., _, rfl, by show 2 ≤ sizeLine; decide, fun b hb => ?_⟩
  have s1 : Same H (upd H b (.tup [.str (kdS S.eff), .int i])) := Same.new hb _
  have hB : SqT K (upd H b (.tup [.str (kdS S.eff), .int i])) b [.str (kdS S.eff), .int i] := SqT.of upd_same
  show tSeq _ _ _ _ (upd H b (.tup [.str (kdS S.eff), .int i]))
  generalize upd H b (.tup [.str (kdS S.eff), .int i]) = H1 at s1 hB
  refine ⟨_, rfl, .ref a, .ty "tuple", .type "tuple", .type "tuple", true, rfl, .ty _, ty_tup (SqT.same s1 hS), kit_ty (by decide +kernel), true, rfl, if_false_of rfl ?_⟩
  refine ⟨_, rfl, _, rfl, _, rfl, _, sa, b, _, S, 1, rs, rfl, Dp.same s1 hD, hSc.same s1, hB, by simp, by simp, ok, by omega, by omega, fun H2 s2 => ?_⟩
  refine ⟨_, rfl, rfl, _, rfl, if_false_of rfl ?_⟩
  have s12 := s1.trans s2
  refine ⟨_, rfl, _, rfl, _, b, _, S, 1, rs, rfl, Dp.same s12 hD, SqT.same s2 hB, by simp, by simp, ok, by omega, by omega, by omega, fun p ys H3 s3 hp hy hyl => ?_⟩
  refine ⟨.ref p, _, rfl, .inl ⟨_, SqL.of hy, rfl⟩, _, _, rfl, rfl, _, rfl, if_false_of (decide_eq_false (by rw [hyl]; omega)) ?_⟩
  exact q H3 (s12.trans s3)
theorem ok_check_bodies (T : Tops w K mg) (G_check_body : FnOk P w K mg base CX0 8 T.a_check_body T.d_check_body ["rows", "scope", "index"] (spBody K T.c_Scope))
    (G_Scope_init : FnOk P w K mg base CX0 1 T.a_Scope_init T.d_Scope_init ["self", "kind", "words", "sources", "readable"] (spScope T.c_Scope)) :
    FnOk P w K mg base CX0 9 T.a_check_bodies T.d_check_bodies ["words", "sources", "derived", "effects"] (spBodies K) := by
  refine T.F_check_bodies.ok sc_check_bodies (fun vs H Q E h => ?_) (fun cdv A outer s H vs Q E hr h => ?_)
  · obtain ⟨aw, as, vd, ve, p, m, rfl, _⟩ := h
    rfl
  obtain ⟨aw, as, vd, ve, p, m, rfl, hW, hSo, hDe, hEf, ok, hm, q⟩ := h
  obtain ⟨ad, xs, rfl, hA, hl, hx⟩ := pairs_at hDe
  obtain ⟨ae, ys, rfl, hA2, hl2, hx2⟩ := pairs_at hEf
  refine ⟨_, (pss_cons (ps_set (i := 4) sc_check_bodies.nd rfl (Or.inl rfl) (pv 1))
    (pss_cons (ps_for PassesOwn.never rfl (pi_enumT rfl T.z_enumerate (pa_cons (pv 2) pa_nil)) (pg_tup rfl (pgs_cons (pg_name (i := 5) sc_check_bodies.nd rfl (Or.inl rfl)) (pgs_cons (pg_tup rfl (pgs_cons (pg_name (i := 6) sc_check_bodies.nd rfl (Or.inl rfl)) (pgs_cons (pg_name (i := 7) sc_check_bodies.nd rfl (Or.inl rfl)) pgs_nil))) pgs_nil))) (pss_cons (ps_expr (pe_call G_check_body (hr.mono (by omega)) rfl T.m_check_body T.F_check_body.kp T.b_check_body .nil pass0 (pa_cons (pv 7) (pa_cons (pe_make T.k_Scope G_Scope_init (hr.mono (by omega)) rfl T.m_Scope T.b_Scope_init .nil pass0 (pa_cons pe_str (pa_cons (pv 0) (pa_cons (pv 1) (pa_cons (pv 4) pa_nil))))) (pa_cons (pv 5) pa_nil)))))
    (pss_one (ps_set (i := 4) sc_check_bodies.nd rfl (Or.inl rfl) (pe_op op_catA (pv 4) (pe_tup (pa_cons (pv 6) pa_nil)))))))
    (pss_one (ps_for PassesOwn.never rfl (pi_enumT rfl T.z_enumerate (pa_cons (pv 3) pa_nil)) (pg_tup rfl (pgs_cons (pg_name (i := 5) sc_check_bodies.nd rfl (Or.inl rfl)) (pgs_cons (pg_tup rfl (pgs_cons (pg_name (i := 8) sc_check_bodies.nd rfl (Or.inl rfl)) (pgs_cons (pg_name (i := 7) sc_check_bodies.nd rfl (Or.inl rfl)) pgs_nil))) pgs_nil))) (pss_one (ps_expr (pe_call G_check_body (hr.mono (by omega)) rfl T.m_check_body T.F_check_body.kp T.b_check_body .nil pass0 (pa_cons (pv 7) (pa_cons (pe_make T.k_Scope G_Scope_init (hr.mono (by omega)) rfl T.m_Scope T.b_Scope_init .nil pass0 (pa_cons pe_str (pa_cons (pv 0) (pa_cons (pv 1) (pa_cons (pv 4) pa_nil))))) (pa_cons (pv 5) pa_nil)))))))))), ?_⟩
  refine ⟨_, rfl, ?_⟩
  refine ⟨_, rfl, ad, _, rfl, hA, for_enumT (K := K) (a := ad) (xs := xs) (fun i σ H' => ∃ (ar : Addr) (v5 v6 v7 : Option V), σ = [some (.ref aw), some (.ref as), some (.ref ad), some (.ref ae), some (.ref ar), v5, v6, v7, none] ∧ Same H H' ∧ SqT K H' ar ((p.sources ++ (p.derived.take i).map (·.1)).map V.str))
    ⟨as, none, none, none, rfl, Same.refl _, by simpa using hSo⟩ (fun i σ H' _ ⟨_, _, _, _, _, hs, _⟩ => SqT.same hs hA) ?_ ?_⟩
  · rintro i x σ H1 t hi ⟨ar, v5, v6, v7, rfl, hs, hR⟩ ht
    obtain ⟨qq, b, vr, hq, rfl, hB, hT⟩ := hx i x hi
    have hs1 : Same H (upd H1 t (.tup [.int (i : Nat), .ref b])) := hs.trans (Same.new ht _)
    have hR1 := SqT.same (Same.new ht (.tup [.int (i : Nat), .ref b])) hR
    refine ⟨t, _, rfl, SqT.of upd_same, rfl, _, _, rfl, _, _, rfl, ⟨b, _, rfl, SqT.same hs1 hB, rfl, _, _, rfl, _, _, rfl, rfl, ?_⟩⟩
    generalize upd H1 t (.tup [.int (i : Nat), .ref b]) = H2 at hs1 hR1
    obtain ⟨okd, hcd⟩ := okDer_get ok.der hq
    refine ⟨rfl, _, rfl, _, rfl, _, rfl, _, rfl, fun x dx hx hdx hne => ⟨x, dx, aw, as, ar, "derived", rfl, upd_same, rfl, _, rfl, ?_⟩⟩
    obtain ⟨H3, e3, s3, sc3⟩ := scope_made (C := T.c_Scope) (S := ⟨false, p.words, p.sources, p.sources ++ (p.derived.take i).map (·.1)⟩) hx hdx hne (SqT.same hs1 hW) (SqT.same hs1 hSo) hR1
    rw [show ("derived" : Str) = kdS false from rfl, e3]
    refine ⟨vr, x, _, qq.2, _, rfl, Dp.same (hs1.trans s3) hT.dp, sc3, okd, by omega, fun H4 s4 => ?_⟩
    have s24 := s3.trans s4
    refine ⟨_, rfl, _, rfl, by show 1 ≤ sizeLine; decide, fun t1 ht1 => ?_⟩
    have s25 := s24.trans (Same.new ht1 (.tup [.str qq.1]))
    refine cat_all (SqT.same s25 hR1) (SqT.of upd_same) (Nat.le_of_lt (small1000 ?_)) (fun ar2 H6 s6 hR6 => ?_)
    · have h1 := ok.s4
      have h2 := ok.d6
      simp
      omega
    · refine ⟨ar2, _, _, _, rfl, hs1.trans (s25.trans s6), ?_⟩
      rw [take_more hq]
      have hR7 : SqT K H6 ar2 (((p.sources ++ (p.derived.take i).map (·.1)).map V.str) ++ [V.str qq.1]) := hR6
      simpa using hR7
  · rintro σ H1 ⟨ar, v5, v6, v7, rfl, hs, hR⟩
    rw [hl, List.take_length] at hR
    refine ⟨_, rfl, ae, _, rfl, SqT.same hs hA2, for_enumT (K := K) (a := ae) (xs := ys) (fun i σ H' => ∃ (v5 v6 v7 v8 : Option V), σ = [some (.ref aw), some (.ref as), some (.ref ad), some (.ref ae), some (.ref ar), v5, v6, v7, v8] ∧ Same H1 H')
      ⟨v5, v6, v7, none, rfl, Same.refl _⟩ (fun i σ H' _ ⟨_, _, _, _, _, h⟩ => SqT.same (hs.trans h) hA2) ?_ ?_⟩
    · rintro i x σ H2 t hi ⟨v5, v6, v7, v8, rfl, hs2⟩ ht
      obtain ⟨qq, b, vr, hq, rfl, hB, hT⟩ := hx2 i x hi
      have hs3 : Same H1 (upd H2 t (.tup [.int (i : Nat), .ref b])) := hs2.trans (Same.new ht _)
      refine ⟨t, _, rfl, SqT.of upd_same, rfl, _, _, rfl, _, _, rfl, ⟨b, _, rfl, SqT.same (hs.trans hs3) hB, rfl, _, _, rfl, _, _, rfl, rfl, ?_⟩⟩
      generalize upd H2 t (.tup [.int (i : Nat), .ref b]) = H3 at hs3
      obtain ⟨okd, hcd⟩ := okEff_get ok.eff hq
      refine ⟨rfl, _, rfl, _, rfl, _, rfl, _, rfl, fun x dx hx hdx hne => ⟨x, dx, aw, as, ar, "effects", rfl, upd_same, rfl, _, rfl, ?_⟩⟩
      obtain ⟨H4, e4, s4, sc4⟩ := scope_made (C := T.c_Scope) (S := ⟨true, p.words, p.sources, p.cells⟩) hx hdx hne (SqT.same (hs.trans hs3) hW) (SqT.same (hs.trans hs3) hSo) (SqT.same hs3 hR)
      rw [show ("effects" : Str) = kdS true from rfl, e4]
      refine ⟨vr, x, _, qq.2, _, rfl, Dp.same ((hs.trans hs3).trans s4) hT.dp, sc4, okd, by omega, fun H5 s5 => ?_⟩
      exact ⟨_, _, _, _, rfl, hs3.trans (s4.trans s5)⟩
    · rintro σ H2 ⟨_, _, _, _, rfl, hs2⟩
      exact q H2 (hs.trans hs2)
end
end K07
namespace K07
open PySem PySem.Spec PyProof.Rows L2 Td
theorem names_parts {p : PP} (h : Names p.names) : Names p.sources ∧ Names (p.sources ++ p.derived.map (·.1)) ∧ Names ((p.sources ++ p.derived.map (·.1)) ++ p.effects.map (·.1)) := by
  have e : p.names = (p.sources ++ p.derived.map (·.1)) ++ p.effects.map (·.1) := rfl
  rw [e] at h
  have h2 := Names.sub h (List.sublist_append_left _ _)
  exact ⟨Names.sub h2 (List.sublist_append_left _ _), h2, h⟩
theorem pairs_append {K : PySem.W.Frag} {H : Hp} {xs ys : List V} {ps qs : List (Str × List Td.Row)} (h1 : TnAll K H xs (ps.map Td.pairD)) (h2 : TnAll K H ys (qs.map Td.pairD)) : TnAll K H (xs ++ ys) ((ps ++ qs).map Td.pairD) := by
  rw [List.map_append]; exact TnAll.append h1 h2
/-- only one pair bears a name -/
theorem pair_unique {ps : List (Str × List Td.Row)} (h : (ps.map (·.1)).Nodup) {q r : Str × List Td.Row} (hq : q ∈ ps) (hr : r ∈ ps) (e : q.1 = r.1) : q = r := by
  induction ps with
  | nil => cases hq
  | cons x l ih =>
    rw [List.map_cons, List.nodup_cons] at h
    rcases List.mem_cons.mp hq with rfl | hq'
    · rcases List.mem_cons.mp hr with rfl | hr'
      · rfl
      · exact absurd (e ▸ List.mem_map.mpr ⟨r, hr', rfl⟩) h.1
    · rcases List.mem_cons.mp hr with rfl | hr'
      · exact absurd (e.symm ▸ List.mem_map.mpr ⟨q, hq', rfl⟩) h.1
      · exact ih h.2 hq' hr'
section
variable {P : Program} {w : World} {K : PySem.W.Frag} {mg : Str → Option Value} {base : Heap}
theorem ok_check_parts (T : Tops w K mg) (G_are_names : FnOk P w K mg base CX0 2 T.a_are_names T.d_are_names ["value", "least", "most"] (spAreNames K))
    (G_are_named_pairs : FnOk P w K mg base CX0 2 T.a_are_named_pairs T.d_are_named_pairs ["value", "most", "taken"] (spNamedPairs K))
    (G_names_of : FnOk P w K mg base CX0 1 T.a_names_of T.d_names_of ["pairs"] (spNamesOf K)) :
    FnOk P w K mg base CX0 3 T.a_check_parts T.d_check_parts ["words", "sources", "derived", "effects"] (spBodies K) := by
  refine T.F_check_parts.ok sc_check_parts (fun vs H Q E h => ?_) (fun cdv A outer s H vs Q E hr h => ?_)
  · obtain ⟨aw, as, vd, ve, p, m, rfl, _⟩ := h
    rfl
  obtain ⟨aw, as, vd, ve, p, m, rfl, hW, hSo, hDe, hEf, ok, hm, q⟩ := h
  obtain ⟨n1, n2, n3⟩ := names_parts ok.nn
  have w2 := ok.w2
  have w4 := ok.w4
  have s1 := ok.s1
  have s4 := ok.s4
  have d6 := ok.d6
  have e4 := ok.e4
  refine ⟨_, (pss_cons (ps_if (pt_not (pt_val (pe_call G_are_names (hr.mono (by omega)) rfl T.m_are_names T.F_are_names.kp T.b_are_names .nil pass0 (pa_cons (pv 0) (pa_cons (pe_glob (v := .int 2) rfl T.c_LEAST_WORDS ⟨_, rfl⟩) (pa_cons (pe_glob (v := .int 4) rfl T.c_MOST_WORDS ⟨_, rfl⟩) pa_nil)))))) (pss_one ps_never) pss_nil)
    (pss_cons (ps_if (pt_not (pt_val (pe_call G_are_names (hr.mono (by omega)) rfl T.m_are_names T.F_are_names.kp T.b_are_names .nil pass0 (pa_cons (pv 1) (pa_cons (pe_glob (v := .int 1) rfl T.c_LEAST_SOURCES ⟨_, rfl⟩) (pa_cons (pe_glob (v := .int 4) rfl T.c_MOST_SOURCES ⟨_, rfl⟩) pa_nil)))))) (pss_one ps_never) pss_nil)
    (pss_cons (ps_if (pt_not (pt_val (pe_call G_are_named_pairs (hr.mono (by omega)) rfl T.m_are_named_pairs T.F_are_named_pairs.kp T.b_are_named_pairs .nil pass0 (pa_cons (pv 2) (pa_cons (pe_glob (v := .int 6) rfl T.c_MOST_DERIVED ⟨_, rfl⟩) (pa_cons (pv 1) pa_nil)))))) (pss_one ps_never) pss_nil)
    (pss_one (ps_if (pt_not (pt_val (pe_call G_are_named_pairs (hr.mono (by omega)) rfl T.m_are_named_pairs T.F_are_named_pairs.kp T.b_are_named_pairs .nil pass0 (pa_cons (pv 3) (pa_cons (pe_glob (v := .int 4) rfl T.c_MOST_EFFECTS ⟨_, rfl⟩) (pa_cons (pe_op op_catA (pv 1) (pe_call G_names_of (hr.mono (by omega)) rfl T.m_names_of T.F_names_of.kp T.b_names_of .nil pass0 (pa_cons (pv 2) pa_nil))) pa_nil)))))) (pss_one ps_never) pss_nil))))), ?_⟩
  refine ⟨_, rfl, aw, p.words, _, _, rfl, hW, ok.wn, by omega, by omega, by omega, fun H1 h1 => ⟨_, rfl, if_false_of rfl ?_⟩⟩
  refine ⟨_, rfl, as, p.sources, _, _, rfl, SqT.same h1 hSo, n1, by omega, by omega, by omega, fun H2 h2 => ⟨_, rfl, if_false_of rfl ?_⟩⟩
  have h12 := h1.trans h2
  refine ⟨_, rfl, _, rfl, vd, as, p.derived, p.sources, _, rfl, Tn.same h12 hDe, SqT.same h12 hSo, n2, by omega, by omega, by omega, fun H3 h3 => ⟨_, rfl, if_false_of rfl ?_⟩⟩
  have h13 := h12.trans h3
  refine ⟨_, rfl, _, rfl, _, rfl, vd, p.derived, rfl, Tn.same h13 hDe, by omega, fun b H4 h4 hb => ?_⟩
  have h14 := h13.trans h4
  refine cat_all (SqT.same h14 hSo) hb (Nat.le_of_lt (small1000 (by rw [List.length_map, List.length_map]; omega))) (fun c H5 h5 hc => ?_)
  refine ⟨ve, c, p.effects, p.sources ++ p.derived.map (·.1), _, rfl, Tn.same (h14.trans h5) hEf, ?_, n3, by omega, by omega, by rw [List.length_append, List.length_map]; omega, fun H6 h6 => ⟨_, rfl, if_false_of rfl ?_⟩⟩
  · have hc' : SqT K H5 c (p.sources.map V.str ++ p.derived.map fun q => V.str q.1) := hc
    rw [List.map_append, List.map_map]; exact hc'
  · exact q H6 ((h14.trans h5).trans h6)
/-- an object amid its making -/
theorem made_same {H0 H2 H3 : Hp} {x : Addr} {o o1 : HO} (s : Same H0 H2) (hx : H0 x = some o) (s3 : Same (upd H2 x o1) H3) : Same H0 (upd H3 x o) := fun b u e => by
  by_cases eb : b = x
  · subst eb; rw [hx] at e; rw [upd_same]; exact e
  · rw [upd_ne eb]; exact s3 _ _ (by rw [upd_ne eb]; exact s _ _ e)
theorem ok_program (T : Tops w K mg) (G_check_parts : FnOk P w K mg base CX0 3 T.a_check_parts T.d_check_parts ["words", "sources", "derived", "effects"] (spBodies K))
    (G_check_bodies : FnOk P w K mg base CX0 9 T.a_check_bodies T.d_check_bodies ["words", "sources", "derived", "effects"] (spBodies K))
    (G_names_of : FnOk P w K mg base CX0 1 T.a_names_of T.d_names_of ["pairs"] (spNamesOf K)) :
    FnOk P w K mg base CX0 10 T.a_Program_init T.d_Program_init ["self", "words", "sources", "derived", "effects"] (spProgram K T.c_Program) := by
  refine T.F_Program_init.ok sc_Program_init (fun vs H Q E h => ?_) (fun cdv A outer s H vs Q E hr h => ?_)
  · obtain ⟨x, dx, aw, as, vd, ve, p, m, rfl, _⟩ := h
    rfl
  obtain ⟨x, dx, aw, as, vd, ve, p, m, rfl, hx, hW, hSo, hDe, hEf, ok, hm, q⟩ := h
  refine ⟨_, (pss_cons (ps_expr (pe_call G_check_parts (hr.mono (by omega)) rfl T.m_check_parts T.F_check_parts.kp T.b_check_parts .nil pass0 (pa_cons (pv 1) (pa_cons (pv 2) (pa_cons (pv 3) (pa_cons (pv 4) pa_nil))))))
    (pss_cons (ps_expr (pe_call G_check_bodies (hr.mono (by omega)) rfl T.m_check_bodies T.F_check_bodies.kp T.b_check_bodies .nil pass0 (pa_cons (pv 1) (pa_cons (pv 2) (pa_cons (pv 3) (pa_cons (pv 4) pa_nil))))))
    (pss_cons (ps_fld (pv 0) (pv 1) rfl)
    (pss_cons (ps_fld (pv 0) (pv 2) rfl)
    (pss_cons (ps_fld (pv 0) (pv 3) rfl)
    (pss_cons (ps_fld (pv 0) (pv 4) rfl)
    (pss_cons (ps_fld (pv 0) (pe_call G_names_of (hr.mono (by omega)) rfl T.m_names_of T.F_names_of.kp T.b_names_of .nil pass0 (pa_cons (pv 3) pa_nil)) rfl)
    (pss_one (ps_fld (pv 0) (pe_call G_names_of (hr.mono (by omega)) rfl T.m_names_of T.F_names_of.kp T.b_names_of .nil pass0 (pa_cons (pv 4) pa_nil)) rfl))))))))), ?_⟩
  refine ⟨_, rfl, _, rfl, _, rfl, _, rfl, aw, as, vd, ve, p, m, rfl, hW, hSo, hDe, hEf, ok, hm, fun H1 h1 => ?_⟩
  refine ⟨_, rfl, _, rfl, _, rfl, _, rfl, aw, as, vd, ve, p, m, rfl, SqT.same h1 hW, SqT.same h1 hSo, Tn.same h1 hDe, Tn.same h1 hEf, ok, hm, fun H2 h2 => ?_⟩
  have h12 := h1.trans h2
  refine ⟨_, rfl, _, rfl, x, T.c_Program, dx, [], rfl, h12 _ _ hx, T.l_Program, T.n_Program_words, by show 0 < 1000; decide, ?_⟩
  refine ⟨_, rfl, _, rfl, x, T.c_Program, dx, _, rfl, upd_same, T.l_Program, T.n_Program_sources, by show 1 < 1000; decide, ?_⟩
  rw [upd_upd]
  refine ⟨_, rfl, _, rfl, x, T.c_Program, dx, _, rfl, upd_same, T.l_Program, T.n_Program_derived, Nat.lt_of_le_of_lt (m := 2) (Nat.le_of_eq (by kernel_rfl)) (by decide), ?_⟩
  rw [upd_upd]
  refine ⟨_, rfl, _, rfl, x, T.c_Program, dx, _, rfl, upd_same, T.l_Program, T.n_Program_effects, Nat.lt_of_le_of_lt (m := 3) (Nat.le_of_eq (by kernel_rfl)) (by decide), ?_⟩
  rw [upd_upd]
  have d6 := ok.d6
  have e4 := ok.e4
  have hx2 := h12 _ _ hx
  have tk0 : ∀ o : HO, TK H2 (upd H2 x o) := fun o => TK.upd (by rw [hx2]; trivial)
  refine ⟨_, rfl, vd, p.derived, rfl, Tn.keep (tk0 _) (Tn.same h12 hDe), by omega, fun t1 H3 s3 ht1 => ?_⟩
  have hx3 := s3 _ _ upd_same
  refine ⟨_, rfl, x, T.c_Program, dx, _, rfl, hx3, T.l_Program, T.n_Program__derived_names, Nat.lt_of_le_of_lt (m := 4) (Nat.le_of_eq (by kernel_rfl)) (by decide), ?_⟩
  have tk1 : ∀ o : HO, TK H3 (upd H3 x o) := fun o => TK.upd (by rw [hx3]; trivial)
  refine ⟨_, rfl, ve, p.effects, rfl, Tn.keep (tk1 _) (Tn.same s3 (Tn.keep (tk0 _) (Tn.same h12 hEf))), by omega, fun t2 H4 s4 ht2 => ?_⟩
  have hx4 := s4 _ _ upd_same
  refine ⟨_, rfl, x, T.c_Program, dx, _, rfl, hx4, T.l_Program, T.n_Program__effect_names, Nat.lt_of_le_of_lt (m := 5) (Nat.le_of_eq (by kernel_rfl)) (by decide), ?_⟩
  have tk2 : ∀ o : HO, TK H4 (upd H4 x o) := fun o => TK.upd (by rw [hx4]; trivial)
  have sH := made_same (made_same h12 hx s3) hx (by rw [upd_upd]; exact s4)
  rw [progF_put]
  have q2 := q t1 t2 _ sH
  rw [upd_upd] at q2
  exact q2 (SqT.tk (tk2 _) (SqT.same s4 (SqT.tk (tk1 _) ht1))) (SqT.tk (tk2 _) ht2)
theorem ok_body (T : Tops w K mg) : FnOk P w K mg base CX0 1 T.a_Program_body T.d_Program_body ["self", "name"] (spBodyOf K T.c_Program) := by
  refine T.F_Program_body.ok sc_Program_body (fun vs H Q E h => ?_) (fun cdv A outer s H vs Q E hr h => ?_)
  · obtain ⟨pa, z, p, m, qq, rfl, _⟩ := h
    rfl
  obtain ⟨pa, z, p, m, qq, rfl, hP, ok, hin, rfl, q⟩ := h
  obtain ⟨dx, aw, as, vd, ve, ⟨dn, en, e, hdn, hen⟩, h1, h2, h3, h4⟩ := hP.ex
  obtain ⟨ad, xs, rfl, hA, hTA⟩ := Tn.tup_inv h3
  obtain ⟨ae, ys, rfl, hA2, hTA2⟩ := Tn.tup_inv h4
  have d6 := ok.d6
  have e4 := ok.e4
  have lx := hTA.length
  have ly := hTA2.length
  rw [List.length_map] at lx ly
  refine ⟨_, (pss_cons (ps_for PassesOwn.never rfl (pi_tup (pe_op op_catA (pe_fld (pv 0) rfl) (pe_fld (pv 0) rfl))) (pg_tup rfl (pgs_cons (pg_name (i := 2) sc_Program_body.nd rfl (Or.inl rfl)) (pgs_cons (pg_name (i := 3) sc_Program_body.nd rfl (Or.inl rfl)) pgs_nil))) (pss_one (ps_if (pt_cmpR op_eq (pv 2) (pv 1) (nomark _)) (pss_one (ps_ret (pv 3))) pss_nil)))
    (pss_one ps_never)), ?_⟩
  refine ⟨_, rfl, pa, _, dx, _, _, rfl, e, T.l_Program, T.n_Program_derived, progF_derived .., _, rfl, pa, _, dx, _, _, rfl, e, T.l_Program, T.n_Program_effects, progF_effects .., ?_⟩
  refine cat_all hA hA2 (Nat.le_of_lt (small1000 (by omega))) (fun c H1 s1 hc => ?_)
  have hT : Tn K H1 (.ref c) (pairsD (p.derived ++ p.effects)) := .tup hc (TnAll.keep (TK.of_same s1) (pairs_append hTA hTA2))
  obtain ⟨c', zs, e2, hC, hl, hx⟩ := pairs_at hT
  cases e2
  have nd : ((p.derived ++ p.effects).map (·.1)).Nodup := by
    have := ok.nn.nd
    unfold PP.names at this
    rw [List.append_assoc] at this
    rw [List.map_append]
    exact this.sublist (List.sublist_append_right _ _)
  refine ⟨c, rfl, ⟨_, hC⟩, for_tup (K := K) (a := c) (xs := zs) (fun i σ H' => ∃ (v2 v3 : Option V), σ = [some (.ref pa), some (.str qq.1), v2, v3] ∧ Same H1 H' ∧ ∀ j r, j < i → (p.derived ++ p.effects)[j]? = some r → r.1 ≠ qq.1)
    ⟨none, none, rfl, Same.refl _, fun j r h => absurd h (Nat.not_lt_zero j)⟩ (fun i σ H' _ ⟨_, _, _, hs, _⟩ => SqT.same hs hC) ?_ ?_⟩
  · rintro i x σ H2 hi ⟨v2, v3, rfl, hs, hno⟩
    obtain ⟨r, b, vr, hr1, rfl, hB, hR⟩ := hx i x hi
    refine ⟨b, _, rfl, SqT.same hs hB, rfl, _, _, rfl, _, _, rfl, rfl, ?_⟩
    refine ⟨_, rfl, _, rfl, rfl, _, rfl, ?_⟩
    by_cases en : r.1 = qq.1
    · refine if_true_of (by rw [en]; exact decide_eq_true rfl) ?_
      have hrq : r = qq := pair_unique nd (List.mem_of_getElem? hr1) hin en
      subst hrq
      exact ⟨_, rfl, q vr H2 (s1.trans hs) (Tn.same hs hR)⟩
    · refine if_false_of (decide_eq_false (fun h => en (by injection h))) ⟨_, _, rfl, hs, fun j r' hj hr' => ?_⟩
      by_cases ej : j = i
      · subst ej; rw [hr1] at hr'; cases hr'; exact en
      · exact hno j r' (by omega) hr'
  · rintro σ H2 ⟨v2, v3, rfl, hs, hno⟩
    obtain ⟨j, hj⟩ := List.getElem?_of_mem hin
    exact absurd rfl (hno j qq (by rw [hl]; exact (List.getElem?_eq_some_iff.mp hj).1) hj)
def spEffectNames (K : PySem.W.Frag) (C : Addr) : Sp := fun vs H Q _ => ∃ (pa : Addr) (p : PP) (m : Nat), vs = [.ref pa] ∧ ProgAt K H C pa p ∧ p.Ok m ∧
  ∀ t H', Same H H' → SqT K H' t (p.effects.map fun r => V.str r.1) → Q (.ref t) H'
theorem ok_effect_names (T : Tops w K mg) :
    FnOk P w K mg base CX0 2 T.a_Program_effect_names T.d_Program_effect_names ["self"] (spEffectNames K T.c_Program) := by
  refine T.F_Program_effect_names.ok sc_Program_effect_names (fun vs H Q E h => ?_) (fun cdv A outer s H vs Q E hr h => ?_)
  · obtain ⟨pa, p, m, rfl, _⟩ := h
    rfl
  obtain ⟨pa, p, m, rfl, hP, ok, q⟩ := h
  obtain ⟨dx, aw, as, vd, ve, ⟨dn, en, e, hdn, hen⟩, h1, h2, h3, h4⟩ := hP.ex
  have e4 := ok.e4
  refine ⟨_, (pss_one (ps_ret (pe_fld (pv 0) rfl))), ?_⟩
  exact ⟨_, rfl, pa, _, dx, _, _, rfl, e, T.l_Program, T.n_Program__effect_names, progF_en .., q en H (Same.refl _) hen⟩
end
end K07
namespace K07
open PySem PySem.Spec PyProof.Rows L2 Td
def knF (kn : Td.Env) (c : Str) : Str := (getE kn c).getD ""
def rs0 (d : Str) : RS := ⟨[], [], [], [], [], d⟩
def spTrueRun (K : PySem.W.Frag) (C : Addr) : Sp := fun vs H Q _ => ∃ (x dx kd : Addr) (d : Str) (H0 : Hp), vs = [.ref x, .str d, .ref kd] ∧ H x = some (.ins C dx []) ∧ Same H0 H ∧ H0 x = none ∧
  ∀ (A : RA) H', A.ra = x → A.kd = kd → A.d = d → RunAt K C A H0 H' (rs0 d) → Q .non H'
def spWordIn (K : PySem.W.Frag) (C : Addr) : Sp := fun vs H Q _ => ∃ (A : RA) (H0 : Hp) (st : RS) (z : Str), vs = [.ref A.ra, .str z] ∧ RunAt K C A H0 H st ∧ Q (.str (st.word A.d z)) H
def spAct (K : PySem.W.Frag) (C : Addr) (ok : Td.Row → Prop) : Sp := fun vs H Q _ => ∃ (A : RA) (H0 : Hp) (st : RS) (kn : Td.Env) (v : V) (r : Td.Row) (n : Nat), vs = [.ref A.ra, v] ∧ ok r ∧ RunAt K C A H0 H st ∧ H0 A.kd = some (.dK (kv kn)) ∧ Dp K H0 v (rowD r) ∧ st.Few n ∧ n ≤ 500 ∧
  (∀ pk c s, r = .rd pk c s → (getE kn c).isSome = true) ∧ ∀ H', RunAt K C A H0 H' (runR (knF kn) A.d r st).1 → Q .non H'
def isRead (r : Td.Row) : Prop := ∃ c s, r = .rd false c s
def isPeek (r : Td.Row) : Prop := ∃ c s, r = .rd true c s
def isPut (r : Td.Row) : Prop := ∃ c s, r = .put c s
def isWrite (r : Td.Row) : Prop := ∃ c s, r = .wr c s
def isSay (r : Td.Row) : Prop := ∃ s, r = .say s
theorem fld_new {H0 H : Hp} {x p : Addr} {o u u' : HO} (hs : Same H0 H) (h0 : H0 x = none) (hx : H x = some u) (hp : H p = none) :
    ∃ Hb, upd (upd H p o) x u' = Hb ∧ Same H0 Hb ∧ H0 p = none ∧ Hb x = some u' ∧ Hb p = some o ∧ ∀ b t, b ≠ x → H b = some t → Hb b = some t := by
  have hne : p ≠ x := fun e => by rw [e, hx] at hp; cases hp
  refine ⟨_, rfl, own_same (hs.trans (Same.new hp o)) h0, ?_, upd_same, by rw [upd_ne hne]; exact upd_same, fun b t hb e => by rw [upd_ne hb]; exact Same.new hp _ _ _ e⟩
  cases e : H0 p with
  | none => rfl
  | some t => rw [hs _ _ e] at hp; cases hp
theorem get_known {H : Hp} {a : Addr} {kn : Td.Env} {c : Str} (e : H a = some (.dK (kv kn))) (hc : (getE kn c).isSome = true) : DGet H a (.str c) (some (.str (knF kn c))) := by
  have h := DGet.k (k := .inr c) e
  rw [Td.kv_get] at h
  obtain ⟨u, hu⟩ := Option.isSome_iff_exists.mp hc
  have : (getE kn c).map V.str = some (.str (knF kn c)) := by unfold knF; rw [hu]; rfl
  rw [this] at h
  exact h
theorem put_kv {H : Hp} {a : Addr} {L : Td.Env} {k v : Str} (e : H a = some (.dK (kv L))) (hl : L.length < sizeLine) : DPut H a (.str k) (.str v) (upd H a (.dK (kv (putE L k v)))) := by
  have h := DPut.k (k := .inr k) (v := .str v) e (by rw [kv_len]; exact hl)
  rw [kv_put] at h
  exact h
section
variable {P : Program} {w : World} {K : PySem.W.Frag} {mg : Str → Option Value} {base : Heap}
structure RecAt (C : Addr) (H0 H : Hp) (x dx p2 p3 p4 p5 : Addr) : Prop where
  same : Same H0 H
  f2 : H0 p2 = none
  f3 : H0 p3 = none
  f4 : H0 p4 = none
  f5 : H0 p5 = none
  n3 : p2 ≠ p3
  n4 : p4 ≠ p5
  ob : H x = some (.ins C dx (putF "given" .non (putF "written" (.ref p5) (putF "said" (.ref p4) (putF "peeked" (.ref p3) (putF "noted" (.ref p2) []))))))
  e2 : H p2 = some (.dK [])
  e3 : H p3 = some (.dK [])
  e4 : H p4 = some (.lst [])
  e5 : H p5 = some (.lst [])
def spRecord (K : PySem.W.Frag) (C : Addr) : Sp := fun vs H Q _ => ∃ (x dx : Addr) (H0 : Hp), vs = [.ref x] ∧ H x = some (.ins C dx []) ∧ Same H0 H ∧ H0 x = none ∧
  ∀ (p2 p3 p4 p5 : Addr) H', RecAt C H0 H' x dx p2 p3 p4 p5 → Q .non H'
theorem ok_record_init (T : Tops w K mg) : FnOk P w K mg base CX0 1 T.a_Record_init T.d_Record_init ["self"] (spRecord K T.c_TrueRun) := by
  refine T.F_Record_init.ok sc_Record_init (fun vs H Q E h => ?_) (fun cdv A outer s H vs Q E hr h => ?_)
  · obtain ⟨x, dx, H0, rfl, _⟩ := h
    rfl
  obtain ⟨x, dx, H0, rfl, hx, hs, h0, q⟩ := h
  refine ⟨_, (pss_cons (ps_fld (pv 0) pe_dnewK rfl)
    (pss_cons (ps_fld (pv 0) pe_dnewK rfl)
    (pss_cons (ps_fld (pv 0) (pe_lst pa_nil) rfl)
    (pss_cons (ps_fld (pv 0) (pe_lst pa_nil) rfl)
    (pss_one (ps_fld (pv 0) pe_non rfl)))))), ?_⟩
  refine fun p2 hp2 => ⟨_, rfl, x, T.c_TrueRun, dx, _, rfl, Same.new hp2 _ _ _ hx, T.l_TrueRun, T.n_TrueRun_noted, by show 0 < 1000; decide, ?_⟩
  obtain ⟨H4, e4, s4, f2, x4, y2, k4⟩ := fld_new (o := .dK []) (u' := .ins T.c_TrueRun dx (putF "noted" (.ref p2) [])) hs h0 hx hp2
  show tSeq _ _ _ _ (upd (upd H p2 (.dK [])) x (.ins T.c_TrueRun dx (putF "noted" (.ref p2) [])))
  rw [e4]
  refine fun p3 hp3 => ⟨_, rfl, x, T.c_TrueRun, dx, _, rfl, Same.new hp3 _ _ _ x4, T.l_TrueRun, T.n_TrueRun_peeked, Nat.lt_of_le_of_lt (m := 1) (Nat.le_of_eq (by kernel_rfl)) (by decide), ?_⟩
  obtain ⟨H5, e5, s5, f3, x5, y3, k5⟩ := fld_new (o := .dK []) (u' := .ins T.c_TrueRun dx (putF "peeked" (.ref p3) (putF "noted" (.ref p2) []))) s4 h0 x4 hp3
  show tSeq _ _ _ _ (upd (upd H4 p3 (.dK [])) x (.ins T.c_TrueRun dx (putF "peeked" (.ref p3) (putF "noted" (.ref p2) []))))
  rw [e5]
  have nx2 : p2 ≠ x := fun e => by rw [e, x4] at y2; cases y2
  have y25 := k5 _ _ nx2 y2
  have n23 : p2 ≠ p3 := ne_of_none y2 hp3
  have nx3 : p3 ≠ x := fun e => by rw [e, x5] at y3; cases y3
  refine ⟨by show 0 ≤ sizeLine; decide, fun p4 hp4 => ⟨_, rfl, x, T.c_TrueRun, dx, _, rfl, Same.new hp4 _ _ _ x5, T.l_TrueRun, T.n_TrueRun_said, Nat.lt_of_le_of_lt (m := 2) (Nat.le_of_eq (by kernel_rfl)) (by decide), ?_⟩⟩
  obtain ⟨H6, e6, s6, f4, x6, y4, k6⟩ := fld_new (o := .lst []) (u' := .ins T.c_TrueRun dx (putF "said" (.ref p4) (putF "peeked" (.ref p3) (putF "noted" (.ref p2) [])))) s5 h0 x5 hp4
  show tSeq _ _ _ _ (upd (upd H5 p4 (.lst [])) x (.ins T.c_TrueRun dx (putF "said" (.ref p4) (putF "peeked" (.ref p3) (putF "noted" (.ref p2) [])))))
  rw [e6]
  have nx4 : p4 ≠ x := fun e => by rw [e, x6] at y4; cases y4
  refine ⟨by show 0 ≤ sizeLine; decide, fun p5 hp5 => ⟨_, rfl, x, T.c_TrueRun, dx, _, rfl, Same.new hp5 _ _ _ x6, T.l_TrueRun, T.n_TrueRun_written, Nat.lt_of_le_of_lt (m := 3) (Nat.le_of_eq (by kernel_rfl)) (by decide), ?_⟩⟩
  obtain ⟨H7, e7, s7, f5, x7, y5, k7⟩ := fld_new (o := .lst []) (u' := .ins T.c_TrueRun dx (putF "written" (.ref p5) (putF "said" (.ref p4) (putF "peeked" (.ref p3) (putF "noted" (.ref p2) []))))) s6 h0 x6 hp5
  dsimp only
  rw [e7]
  have n45 : p4 ≠ p5 := ne_of_none y4 hp5
  have nx5 : p5 ≠ x := fun e => by rw [e, x7] at y5; cases y5
  refine ⟨_, rfl, x, T.c_TrueRun, dx, _, rfl, x7, T.l_TrueRun, T.n_TrueRun_given, Nat.lt_of_le_of_lt (m := 4) (Nat.le_of_eq (by kernel_rfl)) (by decide), ?_⟩
  refine q p2 p3 p4 p5 _ ⟨own_same s7 h0, f2, f3, f4, f5, n23, n45, upd_same, ?_, ?_, ?_, ?_⟩
  · rw [upd_ne nx2]; exact k7 _ _ nx2 (k6 _ _ nx2 y25)
  · rw [upd_ne nx3]; exact k7 _ _ nx3 (k6 _ _ nx3 y3)
  · rw [upd_ne nx4]; exact k7 _ _ nx4 y4
  · rw [upd_ne nx5]; exact y5
theorem ok_true_run_init (T : Tops w K mg) : FnOk PySem.Challenge.pw_toldonward_k07_whole_runs_hang_on_their w K mg base CX0 2 T.a_TrueRun_init T.d_TrueRun_init ["self", "default", "known"] (spTrueRun K T.c_TrueRun) := by
  refine fn_super (N := N_TrueRun_init) T.F_TrueRun_init rfl sc_TrueRun_init rfl rfl (by decide +kernel) (by decide +kernel) (by decide +kernel) (ok_record_init T) T.b_Record_init (fun vs H Q E h => ?_) (fun A outer s H vs Q E cc cda hr h => ?_)
  · obtain ⟨x, dx, kd, d, H0, rfl, _⟩ := h
    rfl
  obtain ⟨x, dx, kd, d, H0, rfl, hx, hs, h0, q⟩ := h
  refine ⟨x, dx, [], _, rfl, hx, x, dx, H0, rfl, hx, hs, h0, fun p2 p3 p4 p5 H1 R => ⟨rfl, ?_⟩⟩
  refine ⟨_, (pss_cons (ps_fld (pv 0) (pv 1) rfl)
    (pss_cons (ps_fld (pv 0) (pv 2) rfl)
    (pss_cons (ps_fld (pv 0) pe_dnewK rfl)
    (pss_one (ps_fld (pv 0) (pv 1) rfl))))), ?_⟩
  obtain ⟨s1, f2, f3, f4, f5, n3, n4, ob, y2, y3, y4, y5⟩ := R
  have nx2 : p2 ≠ x := fun e => by rw [e, ob] at y2; cases y2
  have nx3 : p3 ≠ x := fun e => by rw [e, ob] at y3; cases y3
  have nx4 : p4 ≠ x := fun e => by rw [e, ob] at y4; cases y4
  have nx5 : p5 ≠ x := fun e => by rw [e, ob] at y5; cases y5
  refine ⟨_, rfl, _, rfl, x, T.c_TrueRun, dx, _, rfl, ob, T.l_TrueRun, T.n_TrueRun_default, Nat.lt_of_le_of_lt (m := 5) (Nat.le_of_eq (by kernel_rfl)) (by decide), ?_⟩
  refine ⟨_, rfl, _, rfl, x, T.c_TrueRun, dx, _, rfl, upd_same, T.l_TrueRun, T.n_TrueRun_known, Nat.lt_of_le_of_lt (m := 6) (Nat.le_of_eq (by kernel_rfl)) (by decide), ?_⟩
  rw [upd_upd]
  obtain ⟨H2, e2⟩ : ∃ H2, H2 = upd H1 x (.ins T.c_TrueRun dx (putF "known" (.ref kd) (putF "default" (.str d) (putF "given" .non (putF "written" (.ref p5) (putF "said" (.ref p4) (putF "peeked" (.ref p3) (putF "noted" (.ref p2) [])))))))) := ⟨_, rfl⟩
  have s2 : Same H0 H2 := by rw [e2]; exact own_same s1 h0
  have x2 : H2 x = some (.ins T.c_TrueRun dx (putF "known" (.ref kd) (putF "default" (.str d) (putF "given" .non (putF "written" (.ref p5) (putF "said" (.ref p4) (putF "peeked" (.ref p3) (putF "noted" (.ref p2) [])))))))) := by rw [e2]; exact upd_same
  have z2 : H2 p2 = some (.dK []) := by rw [e2, upd_ne nx2]; exact y2
  have z3 : H2 p3 = some (.dK []) := by rw [e2, upd_ne nx3]; exact y3
  have z4 : H2 p4 = some (.lst []) := by rw [e2, upd_ne nx4]; exact y4
  have z5 : H2 p5 = some (.lst []) := by rw [e2, upd_ne nx5]; exact y5
  show tSeq _ _ _ _ (upd H1 x (.ins T.c_TrueRun dx (putF "known" (.ref kd) (putF "default" (.str d) (putF "given" .non (putF "written" (.ref p5) (putF "said" (.ref p4) (putF "peeked" (.ref p3) (putF "noted" (.ref p2) [])))))))))
  rw [← e2]
  refine fun p1 hp1 => ⟨_, rfl, x, T.c_TrueRun, dx, _, rfl, Same.new hp1 _ _ _ x2, T.l_TrueRun, T.n_TrueRun_slots, Nat.lt_of_le_of_lt (m := 7) (Nat.le_of_eq (by kernel_rfl)) (by decide), ?_⟩
  obtain ⟨H3, e3, s3, f1, x3, y1, k3⟩ := fld_new (o := .dK []) (u' := .ins T.c_TrueRun dx (putF "slots" (.ref p1) (putF "known" (.ref kd) (putF "default" (.str d) (putF "given" .non (putF "written" (.ref p5) (putF "said" (.ref p4) (putF "peeked" (.ref p3) (putF "noted" (.ref p2) []))))))))) s2 h0 x2 hp1
  dsimp only
  rw [e3]
  have n12 : p1 ≠ p2 := (ne_of_none z2 hp1).symm
  have n13 : p1 ≠ p3 := (ne_of_none z3 hp1).symm
  have nx1 : p1 ≠ x := fun e => by rw [e, x3] at y1; cases y1
  refine ⟨_, rfl, _, rfl, x, T.c_TrueRun, dx, _, rfl, x3, T.l_TrueRun, T.n_TrueRun_given, Nat.lt_of_le_of_lt (m := 8) (Nat.le_of_eq (by kernel_rfl)) (by decide), ?_⟩
  refine q ⟨x, kd, p1, p2, p3, p4, p5, d⟩ _ rfl rfl rfl ⟨own_same s3 h0, h0, f1, f2, f3, f4, f5, n12, n13, n3, n4, ⟨dx, ?_⟩, ?_, ?_, ?_, ?_, [], ?_, .nil⟩
  · rw [upd_same]
    congr 1
  · rw [upd_ne nx1]; exact y1
  · rw [upd_ne nx2]; exact k3 _ _ nx2 z2
  · rw [upd_ne nx3]; exact k3 _ _ nx3 z3
  · rw [upd_ne nx4]; exact k3 _ _ nx4 z4
  · rw [upd_ne nx5]; exact k3 _ _ nx5 z5
theorem ok_word_in (T : Tops w K mg) : FnOk P w K mg base CX0 1 T.a_TrueRun_word_in T.d_TrueRun_word_in ["self", "slot"] (spWordIn K T.c_TrueRun) := by
  refine T.F_TrueRun_word_in.ok sc_TrueRun_word_in (fun vs H Q E h => ?_) (fun cdv A outer s H vs Q E hr h => ?_)
  · obtain ⟨A, H0, st, z, rfl, _⟩ := h
    rfl
  obtain ⟨A, H0, st, z, rfl, hR, q⟩ := h
  obtain ⟨dx, e⟩ := hR.ob
  refine ⟨_, (pss_one (ps_ret (pe_dget2 (hu_of hr) (pe_fld (pv 0) rfl) (pv 1) (pe_fld (pv 0) rfl) ⟨rfl, rfl, rfl, rfl⟩))), ?_⟩
  refine ⟨_, rfl, A.ra, _, dx, _, _, rfl, e, T.l_TrueRun, T.n_TrueRun_slots, fl_slots .., A.ps, rfl, .inl ⟨_, .inl hR.sl⟩, _, rfl, _, rfl, A.ra, _, dx, _, _, rfl, e, T.l_TrueRun, T.n_TrueRun_default, fl_default .., _, DGet.k (k := .inr z) hR.sl, ?_⟩
  have e2 : (valV (kv st.slots) (.inr z : Key)).getD (.str A.d) = .str (st.word A.d z) := by
    rw [Td.kv_get]
    unfold RS.word
    cases getE st.slots z <;> rfl
  show Q ((valV (kv st.slots) (.inr z : Key)).getD (.str A.d)) H
  rw [e2]
  exact q
end
end K07
namespace K07
open PySem PySem.Spec PyProof.Rows L2 Td
theorem upd_self {H : Hp} {a : Addr} {o : HO} (e : H a = some o) : upd H a o = H := by
  funext b
  by_cases h : b = a
  · rw [h, upd_same, e]
  · rw [upd_ne h]
theorem sd_kv {L : Td.Env} {k v : Str} {Q : V → Hp → Prop} {H : Hp} {a : Addr} (e : H a = some (.dK (kv L))) (h : ∀ (z : V), Q z (upd H a (.dK (kv (sdE L k v))))) :
    (∀ (z : V), valV (kv L) (.inr k : Key) = some z → Q z H) ∧ (valV (kv L) (.inr k : Key) = none → Q (.str v) (upd H a (.dK (putK (kv L) (.inr k) (.str v))))) := by
  refine ⟨fun z hz => ?_, fun hz => ?_⟩
  · have e1 : (getE L k).isSome = true := by
      rw [Td.kv_get] at hz
      cases hg : getE L k with
      | none => rw [hg] at hz; cases hz
      | some _ => rfl
    have e2 : sdE L k v = L := by unfold sdE; rw [if_pos e1]
    have h' := h z
    rw [e2, upd_self e] at h'
    exact h'
  · have e1 : ¬ (getE L k).isSome = true := by
      rw [Td.kv_get] at hz
      cases hg : getE L k with
      | none => simp
      | some _ => rw [hg] at hz; cases hz
    have e2 : sdE L k v = putE L k v := by unfold sdE; rw [if_neg e1]
    rw [kv_put, ← e2]
    exact h _
section
variable {P : Program} {w : World} {K : PySem.W.Frag} {mg : Str → Option Value} {base : Heap}
theorem ok_do_read (T : Tops w K mg) : FnOk P w K mg base CX0 2 T.a_do_read T.d_do_read ["run", "row"] (spAct K T.c_TrueRun isRead) := by
  refine T.F_do_read.ok sc_do_read (fun vs H Q E h => ?_) (fun cdv A outer s H vs Q E hr h => ?_)
  · obtain ⟨A, H0, st, kn, v, r, n, rfl, _⟩ := h
    rfl
  obtain ⟨A, H0, st, kn, v, r, n, rfl, ⟨c, s, rfl⟩, hR, hK, hD, few, hn, hc, q⟩ := h
  obtain ⟨a, rfl, hS0⟩ := rd_at hD
  have hS := SqT.same hR.same hS0
  obtain ⟨dx, e⟩ := hR.ob
  have f1 := few.sl
  have f2 := few.no
  refine ⟨_, (pss_cons (ps_set (i := 2) sc_do_read.nd rfl (Or.inl rfl) (pe_dget (hu_of hr) (pe_fld (pv 0) rfl) (pe_ix ix_tup (pv 1) pe_int (fun _ _ => rfl)) (fun _ _ => rfl)))
    (pss_cons (ps_dput (hu_of hr) (pe_fld (pv 0) rfl) (pe_ix ix_tup (pv 1) pe_int (fun _ _ => rfl)) (pv 2) rfl)
    (pss_one (ps_expr (pe_dsetd (pe_fld (pv 0) rfl) (pe_ix ix_tup (pv 1) pe_int (fun _ _ => rfl)) (pv 2) ⟨rfl, rfl, rfl, rfl⟩))))), ?_⟩
  refine ⟨_, rfl, A.ra, _, dx, _, _, rfl, e, T.l_TrueRun, T.n_TrueRun_known, fl_known .., _, rfl, a, _, 1, _, rfl, rfl, hS, rfl, A.kd, _, rfl, get_known (hR.same _ _ hK) (hc _ _ _ rfl), ?_⟩
  refine ⟨_, rfl, _, rfl, A.ra, _, dx, _, _, rfl, e, T.l_TrueRun, T.n_TrueRun_slots, fl_slots .., _, rfl, a, _, 2, _, rfl, rfl, hS, rfl, A.ps, _, rfl, put_kv hR.sl (small1000 (by omega)), ?_⟩
  have hR2 := hR.slots (putE st.slots s (knF kn c))
  have hS2 := SqT.same hR2.same hS0
  obtain ⟨dx2, e2⟩ := hR2.ob
  dsimp only
  generalize upd H A.ps (.dK (kv (putE st.slots s (knF kn c)))) = H2 at hR2 hS2 e2
  refine ⟨_, rfl, A.ra, _, dx2, _, _, rfl, e2, T.l_TrueRun, T.n_TrueRun_noted, fl_noted .., A.pn, rfl, .inl ⟨_, .inl hR2.no⟩, _, rfl, a, _, 1, _, rfl, rfl, hS2, rfl, _, rfl, _, .inr c, hR2.no, rfl, by rw [kv_len]; exact small1000 (by show st.noted.length ≤ 1000; omega), ?_⟩
  refine sd_kv (Q := fun _ H' => Q .non H') hR2.no (fun z => q _ ?_)
  have hR3 := hR2.noted (sdE st.noted c (knF kn c))
  simp only [runR, Bool.false_eq_true, if_false]
  exact hR3
theorem ok_do_peek (T : Tops w K mg) : FnOk P w K mg base CX0 2 T.a_do_peek T.d_do_peek ["run", "row"] (spAct K T.c_TrueRun isPeek) := by
  refine T.F_do_peek.ok sc_do_peek (fun vs H Q E h => ?_) (fun cdv A outer s H vs Q E hr h => ?_)
  · obtain ⟨A, H0, st, kn, v, r, n, rfl, _⟩ := h
    rfl
  obtain ⟨A, H0, st, kn, v, r, n, rfl, ⟨c, s, rfl⟩, hR, hK, hD, few, hn, hc, q⟩ := h
  obtain ⟨a, rfl, hS0⟩ := rd_at hD
  have hS := SqT.same hR.same hS0
  obtain ⟨dx, e⟩ := hR.ob
  have f1 := few.sl
  have f2 := few.pe
  refine ⟨_, (pss_cons (ps_set (i := 2) sc_do_peek.nd rfl (Or.inl rfl) (pe_dget (hu_of hr) (pe_fld (pv 0) rfl) (pe_ix ix_tup (pv 1) pe_int (fun _ _ => rfl)) (fun _ _ => rfl)))
    (pss_cons (ps_dput (hu_of hr) (pe_fld (pv 0) rfl) (pe_ix ix_tup (pv 1) pe_int (fun _ _ => rfl)) (pv 2) rfl)
    (pss_one (ps_expr (pe_dsetd (pe_fld (pv 0) rfl) (pe_ix ix_tup (pv 1) pe_int (fun _ _ => rfl)) (pv 2) ⟨rfl, rfl, rfl, rfl⟩))))), ?_⟩
  refine ⟨_, rfl, A.ra, _, dx, _, _, rfl, e, T.l_TrueRun, T.n_TrueRun_known, fl_known .., _, rfl, a, _, 1, _, rfl, rfl, hS, rfl, A.kd, _, rfl, get_known (hR.same _ _ hK) (hc _ _ _ rfl), ?_⟩
  refine ⟨_, rfl, _, rfl, A.ra, _, dx, _, _, rfl, e, T.l_TrueRun, T.n_TrueRun_slots, fl_slots .., _, rfl, a, _, 2, _, rfl, rfl, hS, rfl, A.ps, _, rfl, put_kv hR.sl (small1000 (by omega)), ?_⟩
  have hR2 := hR.slots (putE st.slots s (knF kn c))
  have hS2 := SqT.same hR2.same hS0
  obtain ⟨dx2, e2⟩ := hR2.ob
  dsimp only
  generalize upd H A.ps (.dK (kv (putE st.slots s (knF kn c)))) = H2 at hR2 hS2 e2
  refine ⟨_, rfl, A.ra, _, dx2, _, _, rfl, e2, T.l_TrueRun, T.n_TrueRun_peeked, fl_peeked .., A.pp, rfl, .inl ⟨_, .inl hR2.pe⟩, _, rfl, a, _, 1, _, rfl, rfl, hS2, rfl, _, rfl, _, .inr c, hR2.pe, rfl, by rw [kv_len]; exact small1000 (by show st.peeked.length ≤ 1000; omega), ?_⟩
  refine sd_kv (Q := fun _ H' => Q .non H') hR2.pe (fun z => q _ ?_)
  have hR3 := hR2.peeked (sdE st.peeked c (knF kn c))
  simp only [runR, if_true]
  exact hR3
theorem ok_do_put (T : Tops w K mg) : FnOk P w K mg base CX0 2 T.a_do_put T.d_do_put ["run", "row"] (spAct K T.c_TrueRun isPut) := by
  refine T.F_do_put.ok sc_do_put (fun vs H Q E h => ?_) (fun cdv A outer s H vs Q E hr h => ?_)
  · obtain ⟨A, H0, st, kn, v, r, n, rfl, _⟩ := h
    rfl
  obtain ⟨A, H0, st, kn, v, r, n, rfl, ⟨c, s, rfl⟩, hR, hK, hD, few, hn, hc, q⟩ := h
  obtain ⟨a, rfl, hS0⟩ := put_at hD
  have hS := SqT.same hR.same hS0
  obtain ⟨dx, e⟩ := hR.ob
  have f1 := few.sl
  refine ⟨_, (pss_one (ps_dput (hu_of hr) (pe_fld (pv 0) rfl) (pe_ix ix_tup (pv 1) pe_int (fun _ _ => rfl)) (pe_ix ix_tup (pv 1) pe_int (fun _ _ => rfl)) rfl)), ?_⟩
  refine ⟨_, rfl, a, _, 2, _, rfl, rfl, hS, rfl, _, rfl, A.ra, _, dx, _, _, rfl, e, T.l_TrueRun, T.n_TrueRun_slots, fl_slots .., _, rfl, a, _, 1, _, rfl, rfl, hS, rfl, A.ps, _, rfl, put_kv hR.sl (small1000 (by omega)), ?_⟩
  refine q _ ?_
  simp only [runR]
  exact hR.slots _
theorem ok_do_write (T : Tops w K mg) (G_TrueRun_word_in : FnOk P w K mg base CX0 1 T.a_TrueRun_word_in T.d_TrueRun_word_in ["self", "slot"] (spWordIn K T.c_TrueRun)) :
    FnOk P w K mg base CX0 2 T.a_do_write T.d_do_write ["run", "row"] (spAct K T.c_TrueRun isWrite) := by
  refine T.F_do_write.ok sc_do_write (fun vs H Q E h => ?_) (fun cdv A outer s H vs Q E hr h => ?_)
  · obtain ⟨A, H0, st, kn, v, r, n, rfl, _⟩ := h
    rfl
  obtain ⟨A, H0, st, kn, v, r, n, rfl, ⟨c, s, rfl⟩, hR, hK, hD, few, hn, hc, q⟩ := h
  obtain ⟨a, rfl, hS0⟩ := wr_at hD
  have hS := SqT.same hR.same hS0
  obtain ⟨dx, e⟩ := hR.ob
  obtain ⟨xs, x1, x2⟩ := hR.wr
  have f1 := few.wr
  have xl := x2.length
  rw [List.length_map] at xl
  refine ⟨_, (pss_one (ps_expr (pe_bm PySem.F.plainAttrs_list PySem.F.slot_list_append PySem.F.type_list_append mt_append (pe_fld (pv 0) rfl) (pa_cons (pe_tup (pa_cons (pe_ix ix_tup (pv 1) pe_int (fun _ _ => rfl)) (pa_cons (pe_meth (pv 0) T.l_TrueRun T.t_TrueRun_word_in G_TrueRun_word_in (hr.mono (by omega)) T.b_TrueRun_word_in .nil pass0 (pa_cons (pe_ix ix_tup (pv 1) pe_int (fun _ _ => rfl)) pa_nil)) pa_nil))) pa_nil)))), ?_⟩
  refine ⟨_, rfl, A.ra, _, dx, _, _, rfl, e, T.l_TrueRun, T.n_TrueRun_written, fl_written .., .inl ⟨rfl, _, SqL.of x1⟩, ?_⟩
  refine ⟨_, rfl, a, _, 1, _, rfl, rfl, hS, rfl, _, rfl, A.ra, dx, _, rfl, e, fl_none .., _, rfl, a, _, 2, _, rfl, rfl, hS, rfl, A, H0, st, s, rfl, hR, ?_⟩
  refine ⟨by show 2 ≤ sizeLine; decide, fun p hp => ?_⟩
  have s1 : Same H (upd H p (.tup [.str c, .str (st.word A.d s)])) := Same.new hp _
  refine ⟨A.pw, xs, _, rfl, rfl, s1 _ _ x1, small1000 (by omega), ?_⟩
  refine q _ ?_
  simp only [runR]
  refine (hR.go s1).write (s1 _ _ x1) ?_
  rw [List.map_append]
  exact TnAll.append (TnAll.keep (TK.of_same s1) x2) (TnAll.one (.tup (SqT.of upd_same) (.cons (.str _) (.cons (.str _) .nil))))
theorem ok_do_say (T : Tops w K mg) (G_TrueRun_word_in : FnOk P w K mg base CX0 1 T.a_TrueRun_word_in T.d_TrueRun_word_in ["self", "slot"] (spWordIn K T.c_TrueRun)) :
    FnOk P w K mg base CX0 2 T.a_do_say T.d_do_say ["run", "row"] (spAct K T.c_TrueRun isSay) := by
  refine T.F_do_say.ok sc_do_say (fun vs H Q E h => ?_) (fun cdv A outer s H vs Q E hr h => ?_)
  · obtain ⟨A, H0, st, kn, v, r, n, rfl, _⟩ := h
    rfl
  obtain ⟨A, H0, st, kn, v, r, n, rfl, ⟨s, rfl⟩, hR, hK, hD, few, hn, hc, q⟩ := h
  obtain ⟨a, rfl, hS0⟩ := say_at hD
  have hS := SqT.same hR.same hS0
  obtain ⟨dx, e⟩ := hR.ob
  have f1 := few.sa
  refine ⟨_, (pss_one (ps_expr (pe_bm PySem.F.plainAttrs_list PySem.F.slot_list_append PySem.F.type_list_append mt_append (pe_fld (pv 0) rfl) (pa_cons (pe_meth (pv 0) T.l_TrueRun T.t_TrueRun_word_in G_TrueRun_word_in (hr.mono (by omega)) T.b_TrueRun_word_in .nil pass0 (pa_cons (pe_ix ix_tup (pv 1) pe_int (fun _ _ => rfl)) pa_nil)) pa_nil)))), ?_⟩
  refine ⟨_, rfl, A.ra, _, dx, _, _, rfl, e, T.l_TrueRun, T.n_TrueRun_said, fl_said .., .inl ⟨rfl, _, SqL.of hR.sa⟩, ?_⟩
  refine ⟨_, rfl, A.ra, dx, _, rfl, e, fl_none .., _, rfl, a, _, 1, _, rfl, rfl, hS, rfl, A, H0, st, s, rfl, hR, ?_⟩
  refine ⟨A.pd, _, _, rfl, rfl, hR.sa, small1000 (by rw [List.length_map]; omega), ?_⟩
  refine q _ ?_
  simp only [runR]
  have h := hR.say (st.said ++ [st.word A.d s])
  rw [List.map_append] at h
  exact h
end
end K07
namespace K07
open PySem PySem.Spec PyProof.Rows L2 Td
def fitA (K : PySem.W.Frag) {w : World} {mg : Str → Option Value} (T : Tops w K mg) : Addr → Sp → Prop := fun f sp =>
  (f = T.a_do_read ∧ sp = spAct K T.c_TrueRun isRead) ∨ (f = T.a_do_peek ∧ sp = spAct K T.c_TrueRun isPeek) ∨ (f = T.a_do_put ∧ sp = spAct K T.c_TrueRun isPut) ∨ (f = T.a_do_write ∧ sp = spAct K T.c_TrueRun isWrite) ∨ (f = T.a_do_say ∧ sp = spAct K T.c_TrueRun isSay)
def spDoRows (K : PySem.W.Frag) (C : Addr) (k : Nat) : Sp := fun vs H Q _ => ∃ (A : RA) (H0 : Hp) (st : RS) (kn : Td.Env) (v : V) (rs : List Td.Row) (n : Nat) (S : Sc) (dep : Nat), vs = [.ref A.ra, v] ∧ RunAt K C A H0 H st ∧ H0 A.kd = some (.dK (kv kn)) ∧
  Dp K H0 v (.tuple (rowsD rs)) ∧ okRs S dep rs ∧ (∀ c ∈ S.readable, (getE kn c).isSome = true) ∧ st.Few n ∧ n + cnts rs ≤ 500 ∧ dep ≤ 4 ∧ 5 ≤ dep + k ∧
  ∀ H', RunAt K C A H0 H' (runRs (knF kn) A.d rs st).1 → Q (.bl (runRs (knF kn) A.d rs st).2) H'
section
variable {P : Program} {w : World} {K : PySem.W.Frag} {mg : Str → Option Value} {base : Heap}
theorem fitA_held (T : Tops w K mg)
    (G1 : FnOk P w K mg base CX0 2 T.a_do_read T.d_do_read ["run", "row"] (spAct K T.c_TrueRun isRead))
    (G2 : FnOk P w K mg base CX0 2 T.a_do_peek T.d_do_peek ["run", "row"] (spAct K T.c_TrueRun isPeek))
    (G3 : FnOk P w K mg base CX0 2 T.a_do_put T.d_do_put ["run", "row"] (spAct K T.c_TrueRun isPut))
    (G4 : FnOk P w K mg base CX0 2 T.a_do_write T.d_do_write ["run", "row"] (spAct K T.c_TrueRun isWrite))
    (G5 : FnOk P w K mg base CX0 2 T.a_do_say T.d_do_say ["run", "row"] (spAct K T.c_TrueRun isSay)) : ∀ f sp, fitA K T f sp → Held P w K mg base 2 f sp := by
  rintro f sp (⟨rfl, rfl⟩ | ⟨rfl, rfl⟩ | ⟨rfl, rfl⟩ | ⟨rfl, rfl⟩ | ⟨rfl, rfl⟩)
  · exact ⟨_, _, G1, T.F_do_read.kp, T.b_do_read⟩
  · exact ⟨_, _, G2, T.F_do_peek.kp, T.b_do_peek⟩
  · exact ⟨_, _, G3, T.F_do_put.kp, T.b_do_put⟩
  · exact ⟨_, _, G4, T.F_do_write.kp, T.b_do_write⟩
  · exact ⟨_, _, G5, T.F_do_say.kp, T.b_do_say⟩
theorem ok_do_rows1 (T : Tops w K mg) {n : Nat} (hn2 : 2 ≤ n) (hA : ∀ f sp, fitA K T f sp → Held P w K mg base 2 f sp)
    (G_TrueRun_word_in : FnOk P w K mg base CX0 1 T.a_TrueRun_word_in T.d_TrueRun_word_in ["self", "slot"] (spWordIn K T.c_TrueRun))
    (G_do_rows : FnOk P w K mg base CX0 n T.a_do_rows T.d_do_rows ["run", "rows"] (spDoRows K T.c_TrueRun (n - 2))) :
    FnOk P w K mg base CX0 (n + 1) T.a_do_rows T.d_do_rows ["run", "rows"] (spDoRows K T.c_TrueRun (n - 2 + 1)) := by
  refine T.F_do_rows.ok sc_do_rows (fun vs H Q E h => ?_) (fun cdv A outer s H vs Q E hr h => ?_)
  · obtain ⟨A, H0, st, kn, v, rs, m, S, dep, rfl, _⟩ := h
    rfl
  obtain ⟨A, H0, st, kn, v, rs, m, S, dep, rfl, hR, hK, hD, ok, hrd, few, hm, hdep, hn, q⟩ := h
  obtain ⟨a, xs, rfl, hS, hl, hx⟩ := rows_at hD
  refine ⟨_, (pss_cons (ps_for PassesOwn.never rfl (pi_tup (pv 1)) (pg_name (i := 2) sc_do_rows.nd rfl (Or.inl rfl)) (pss_cons (ps_if (pt_cmpR op_eq (pe_ix ix_tup (pv 2) pe_int (fun _ _ => rfl)) pe_str (nomark _)) (pss_cons (ps_fld (pv 0) (pe_meth (pv 0) T.l_TrueRun T.t_TrueRun_word_in G_TrueRun_word_in (hr.mono (by omega)) T.b_TrueRun_word_in .nil pass0 (pa_cons (pe_ix ix_tup (pv 2) pe_int (fun _ _ => rfl)) pa_nil)) rfl)
    (pss_one (ps_ret pe_bl))) pss_nil)
    (pss_one (ps_if (pt_cmpR op_eq (pe_ix ix_tup (pv 2) pe_int (fun _ _ => rfl)) pe_str (nomark _)) (pss_cons (ps_set (i := 3) sc_do_rows.nd rfl (Or.inl rfl) (pe_ifExp (pt_cmpR op_eq (pe_meth (pv 0) T.l_TrueRun T.t_TrueRun_word_in G_TrueRun_word_in (hr.mono (by omega)) T.b_TrueRun_word_in .nil pass0 (pa_cons (pe_ix ix_tup (pv 2) pe_int (fun _ _ => rfl)) pa_nil)) (pe_ix ix_tup (pv 2) pe_int (fun _ _ => rfl)) (nomark _)) (pe_ix ix_tup (pv 2) pe_int (fun _ _ => rfl)) (pe_ix ix_tup (pv 2) pe_int (fun _ _ => rfl))))
    (pss_one (ps_if (pt_val (pe_call G_do_rows (hr.mono (by omega)) rfl T.m_do_rows T.F_do_rows.kp T.b_do_rows .nil pass0 (pa_cons (pv 0) (pa_cons (pv 3) pa_nil)))) (pss_one (ps_ret pe_bl)) pss_nil))) (pss_cons (ps_set (i := 4) sc_do_rows.nd rfl (Or.inl rfl) (pe_ix ix_kdict (pe_glob (v := .ref T.a_ACTIONS) rfl T.c_ACTIONS rfl) (pe_ix ix_tup (pv 2) pe_int (fun _ _ => rfl)) (fun _ _ => rfl)))
    (pss_one (ps_expr (pe_callR (i := 4) (S := fitA K T) hA (hr.mono (by omega)) rfl (Or.inl rfl) (pa_cons (pv 0) (pa_cons (pv 2) pa_nil))))))))))
    (pss_one (ps_ret pe_bl))), ?_⟩
  refine ⟨_, rfl, a, rfl, ⟨_, SqT.same hR.same hS⟩, for_tup (K := K) (a := a) (xs := xs) (fun i σ H' => ∃ (v2 v3 v4 : Option V), σ = [some (.ref A.ra), some (.ref a), v2, v3, v4] ∧ RunAt K T.c_TrueRun A H0 H' (runRs (knF kn) A.d (rs.take i) st).1 ∧ (runRs (knF kn) A.d (rs.take i) st).2 = false)
    ⟨none, none, none, rfl, by simpa [runRs] using hR, by simp [runRs]⟩ (fun i σ H' _ ⟨_, _, _, _, h, _⟩ => SqT.same h.same hS) ?_ ?_⟩
  · rintro i x σ H1 hi ⟨v2, v3, v4, rfl, hR1, hf⟩
    obtain ⟨r, hr2, hDr⟩ := hx i x hi
    have okr := okRs_get ok hr2
    have few1 := few_Rs (knF kn) A.d (rs.take i) st m few
    have hcn : Td.cnt r + cnts (rs.take i) ≤ cnts rs := cnts_get hr2
    have nxt := runRs_next (kn := knF kn) (d := A.d) hr2 hf
    have stop := runRs_stop (kn := knF kn) (d := A.d) hr2 hf
    generalize (runRs (knF kn) A.d (rs.take i) st).1 = st1 at hR1 few1 nxt stop
    have h2 : ∀ pk c s, r = .rd pk c s → (getE kn c).isSome = true := fun pk c s e => by
      subst e; unfold okR at okr; exact hrd c okr.2.1
    obtain ⟨dx, e1⟩ := hR1.ob
    cases r with
    | give sl =>
      obtain ⟨ar, rfl, hSr0⟩ := give_at hDr
      have hSr := SqT.same hR1.same hSr0
      refine ⟨_, rfl, ar, _, 0, _, rfl, rfl, hSr, rfl, rfl, _, rfl, if_true_of (by decide +kernel) ?_⟩
      refine ⟨_, rfl, A.ra, dx, _, rfl, e1, fl_none .., _, rfl, ar, _, 1, _, rfl, rfl, hSr, rfl, A, H0, st1, sl, rfl, hR1, ?_⟩
      refine ⟨_, rfl, A.ra, _, dx, _, rfl, e1, T.l_TrueRun, T.n_TrueRun_given, by show 8 < 1000; decide, ?_⟩
      rw [fl_give]
      have eR : runR (knF kn) A.d (.give sl) st1 = ({ st1 with given := st1.word A.d sl }, true) := by simp only [runR]
      have st2 := stop (by rw [eR])
      have h := q _ (by rw [st2, eR]; exact hR1.give _ e1)
      rw [st2, eR] at h
      exact h
    | ite sl u y n' =>
      obtain ⟨ar, vy, vn, rfl, hSr0, hyD, hnD⟩ := ite_at hDr
      have hSr := SqT.same hR1.same hSr0
      have ecn : Td.cnt (Td.Row.ite sl u y n') = 1 + cnts y + cnts n' := by unfold Td.cnt; rfl
      unfold okR at okr
      refine ⟨_, rfl, ar, _, 0, _, rfl, rfl, hSr, rfl, rfl, _, rfl, if_false_of (by decide +kernel) ?_⟩
      refine ⟨_, rfl, ar, _, 0, _, rfl, rfl, hSr, rfl, rfl, _, rfl, if_true_of (by decide +kernel) ?_⟩
      refine ⟨_, rfl, A.ra, dx, _, rfl, e1, fl_none .., _, rfl, ar, _, 1, _, rfl, rfl, hSr, rfl, A, H0, st1, sl, rfl, hR1, ?_⟩
      refine ⟨_, rfl, ar, _, 2, _, rfl, rfl, hSr, rfl, rfl, _, rfl, ?_⟩
      by_cases hw : st1.word A.d sl = u
      · refine if_true_of (by rw [hw]; exact decide_eq_true rfl) ?_
        refine ⟨_, rfl, ar, _, 3, _, rfl, rfl, hSr, rfl, ?_⟩
        refine ⟨_, rfl, _, rfl, A, H0, st1, kn, vy, y, _, S, dep + 1, rfl, hR1, hK, hyD, okr.2.2.2.1, hrd, few1, by omega, by omega, by omega, fun H2 hR2 => ?_⟩
        have eR : runR (knF kn) A.d (.ite sl u y n') st1 = runRs (knF kn) A.d y st1 := by simp only [runR, if_pos hw]
        cases hb : (runRs (knF kn) A.d y st1).2 with
        | true =>
          have st2 := stop (by rw [eR]; exact hb)
          have h := q _ (by rw [st2, eR]; exact hR2)
          rw [st2, eR, hb] at h
          exact ⟨_, rfl, if_true_of rfl h⟩
        | false => exact ⟨_, rfl, if_false_of rfl ⟨_, _, _, rfl, by rw [nxt, eR]; exact hR2, by rw [nxt, eR]; exact hb⟩⟩
      · refine if_false_of (decide_eq_false (fun h => hw (by injection h))) ?_
        refine ⟨_, rfl, ar, _, 4, _, rfl, rfl, hSr, rfl, ?_⟩
        refine ⟨_, rfl, _, rfl, A, H0, st1, kn, vn, n', _, S, dep + 1, rfl, hR1, hK, hnD, okr.2.2.2.2, hrd, few1, by omega, by omega, by omega, fun H2 hR2 => ?_⟩
        have eR : runR (knF kn) A.d (.ite sl u y n') st1 = runRs (knF kn) A.d n' st1 := by simp only [runR, if_neg hw]
        cases hb : (runRs (knF kn) A.d n' st1).2 with
        | true =>
          have st2 := stop (by rw [eR]; exact hb)
          have h := q _ (by rw [st2, eR]; exact hR2)
          rw [st2, eR, hb] at h
          exact ⟨_, rfl, if_true_of rfl h⟩
        | false => exact ⟨_, rfl, if_false_of rfl ⟨_, _, _, rfl, by rw [nxt, eR]; exact hR2, by rw [nxt, eR]; exact hb⟩⟩
    | rd pk c s =>
      obtain ⟨ar, rfl, hSr0⟩ := rd_at hDr
      have hSr := SqT.same hR1.same hSr0
      cases pk with
      | false =>
        refine ⟨_, rfl, ar, _, 0, _, rfl, rfl, hSr, rfl, rfl, _, rfl, if_false_of (by decide +kernel) ?_⟩
        refine ⟨_, rfl, ar, _, 0, _, rfl, rfl, hSr, rfl, rfl, _, rfl, if_false_of (by decide +kernel) ?_⟩
        refine ⟨_, rfl, ar, _, 0, _, rfl, rfl, hSr, rfl, _, _, _, rfl, rfl, T.w_ACTIONS_read, ?_⟩
        refine ⟨_, _, rfl, .inl ⟨rfl, rfl⟩, _, rfl, _, rfl, A, H0, st1, kn, _, _, _, rfl, ⟨c, s, rfl⟩, hR1, hK, hDr, few1, by omega, h2, fun H2 hR2 => ?_⟩
        have eR : (runR (knF kn) A.d (.rd false c s) st1).2 = false := by simp only [runR]
        exact ⟨_, _, _, rfl, by rw [nxt]; exact hR2, by rw [nxt, eR]⟩
      | true =>
        refine ⟨_, rfl, ar, _, 0, _, rfl, rfl, hSr, rfl, rfl, _, rfl, if_false_of (by decide +kernel) ?_⟩
        refine ⟨_, rfl, ar, _, 0, _, rfl, rfl, hSr, rfl, rfl, _, rfl, if_false_of (by decide +kernel) ?_⟩
        refine ⟨_, rfl, ar, _, 0, _, rfl, rfl, hSr, rfl, _, _, _, rfl, rfl, T.w_ACTIONS_peek, ?_⟩
        refine ⟨_, _, rfl, .inr (.inl ⟨rfl, rfl⟩), _, rfl, _, rfl, A, H0, st1, kn, _, _, _, rfl, ⟨c, s, rfl⟩, hR1, hK, hDr, few1, by omega, h2, fun H2 hR2 => ?_⟩
        have eR : (runR (knF kn) A.d (.rd true c s) st1).2 = false := by simp only [runR]
        exact ⟨_, _, _, rfl, by rw [nxt]; exact hR2, by rw [nxt, eR]⟩
    | put c s =>
      obtain ⟨ar, rfl, hSr0⟩ := put_at hDr
      have hSr := SqT.same hR1.same hSr0
      refine ⟨_, rfl, ar, _, 0, _, rfl, rfl, hSr, rfl, rfl, _, rfl, if_false_of (by decide +kernel) ?_⟩
      refine ⟨_, rfl, ar, _, 0, _, rfl, rfl, hSr, rfl, rfl, _, rfl, if_false_of (by decide +kernel) ?_⟩
      refine ⟨_, rfl, ar, _, 0, _, rfl, rfl, hSr, rfl, _, _, _, rfl, rfl, T.w_ACTIONS_put, ?_⟩
      refine ⟨_, _, rfl, .inr (.inr (.inl ⟨rfl, rfl⟩)), _, rfl, _, rfl, A, H0, st1, kn, _, _, _, rfl, ⟨c, s, rfl⟩, hR1, hK, hDr, few1, by omega, h2, fun H2 hR2 => ?_⟩
      have eR : (runR (knF kn) A.d (.put c s) st1).2 = false := by simp only [runR]
      exact ⟨_, _, _, rfl, by rw [nxt]; exact hR2, by rw [nxt, eR]⟩
    | wr c s =>
      obtain ⟨ar, rfl, hSr0⟩ := wr_at hDr
      have hSr := SqT.same hR1.same hSr0
      refine ⟨_, rfl, ar, _, 0, _, rfl, rfl, hSr, rfl, rfl, _, rfl, if_false_of (by decide +kernel) ?_⟩
      refine ⟨_, rfl, ar, _, 0, _, rfl, rfl, hSr, rfl, rfl, _, rfl, if_false_of (by decide +kernel) ?_⟩
      refine ⟨_, rfl, ar, _, 0, _, rfl, rfl, hSr, rfl, _, _, _, rfl, rfl, T.w_ACTIONS_write, ?_⟩
      refine ⟨_, _, rfl, .inr (.inr (.inr (.inl ⟨rfl, rfl⟩))), _, rfl, _, rfl, A, H0, st1, kn, _, _, _, rfl, ⟨c, s, rfl⟩, hR1, hK, hDr, few1, by omega, h2, fun H2 hR2 => ?_⟩
      have eR : (runR (knF kn) A.d (.wr c s) st1).2 = false := by simp only [runR]
      exact ⟨_, _, _, rfl, by rw [nxt]; exact hR2, by rw [nxt, eR]⟩
    | say s =>
      obtain ⟨ar, rfl, hSr0⟩ := say_at hDr
      have hSr := SqT.same hR1.same hSr0
      refine ⟨_, rfl, ar, _, 0, _, rfl, rfl, hSr, rfl, rfl, _, rfl, if_false_of (by decide +kernel) ?_⟩
      refine ⟨_, rfl, ar, _, 0, _, rfl, rfl, hSr, rfl, rfl, _, rfl, if_false_of (by decide +kernel) ?_⟩
      refine ⟨_, rfl, ar, _, 0, _, rfl, rfl, hSr, rfl, _, _, _, rfl, rfl, T.w_ACTIONS_say, ?_⟩
      refine ⟨_, _, rfl, .inr (.inr (.inr (.inr ⟨rfl, rfl⟩))), _, rfl, _, rfl, A, H0, st1, kn, _, _, _, rfl, ⟨s, rfl⟩, hR1, hK, hDr, few1, by omega, h2, fun H2 hR2 => ?_⟩
      have eR : (runR (knF kn) A.d (.say s) st1).2 = false := by simp only [runR]
      exact ⟨_, _, _, rfl, by rw [nxt]; exact hR2, by rw [nxt, eR]⟩
  · rintro σ H1 ⟨v2, v3, v4, rfl, hR1, hf⟩
    rw [hl, List.take_length] at hR1 hf
    have h := q _ hR1
    rw [hf] at h
    exact h
theorem ok_do_rows (T : Tops w K mg) (hA : ∀ f sp, fitA K T f sp → Held P w K mg base 2 f sp)
    (G1 : FnOk P w K mg base CX0 1 T.a_TrueRun_word_in T.d_TrueRun_word_in ["self", "slot"] (spWordIn K T.c_TrueRun)) :
    ∀ k, FnOk P w K mg base CX0 (k + 2) T.a_do_rows T.d_do_rows ["run", "rows"] (spDoRows K T.c_TrueRun k)
  | 0 => by
    have no : ∀ vs H Q E, ¬ spDoRows K T.c_TrueRun 0 vs H Q E := fun vs H Q E h => by
      obtain ⟨_, _, _, _, _, _, _, _, dep, _, _, _, _, _, _, _, _, h1, h2, _⟩ := h
      omega
    exact ⟨fun vs H Q E h => absurd h (no vs H Q E), fun A outer s H args us vs Q E _ _ _ _ h => absurd h (no vs H Q E)⟩
  | k + 1 => ok_do_rows1 T (n := k + 2) (by omega) hA G1 (ok_do_rows T hA G1 k)
end
end K07
namespace K07
open PySem PySem.Spec PyProof.Rows L2 Td
def d0 (p : PP) : Str := p.words.headD ""
theorem d0_at {p : PP} {m : Nat} (ok : p.Ok m) : atI (p.words.map V.str) 0 = some (.str (d0 p)) := by
  have h := ok.w2
  unfold d0
  cases hw : p.words with
  | nil => rw [hw] at h; simp at h
  | cons z r => exact atI_nat (j := 0) rfl
def spTruly (K : PySem.W.Frag) (CP C : Addr) : Sp := fun vs H Q _ => ∃ (pa kd : Addr) (v : V) (p : PP) (m : Nat) (rs : List Td.Row) (kn : Td.Env) (S : Sc), vs = [.ref pa, .ref kd, v] ∧ ProgAt K H CP pa p ∧ p.Ok m ∧ H kd = some (.dK (kv kn)) ∧
  Dp K H v (.tuple (rowsD rs)) ∧ okRs S 1 rs ∧ (∀ c ∈ S.readable, (getE kn c).isSome = true) ∧ cnts rs ≤ 100 ∧
  ∀ (A : RA) H', A.kd = kd → A.d = d0 p → RunAt K C A H H' (runRs (knF kn) (d0 p) rs (rs0 (d0 p))).1 → Q (.ref A.ra) H'
def spStart (K : PySem.W.Frag) (CP : Addr) : Sp := fun vs H Q _ => ∃ (pa wa : Addr) (p : PP) (m : Nat) (ws : List Str), vs = [.ref pa, .ref wa] ∧ ProgAt K H CP pa p ∧ p.Ok m ∧ SqT K H wa (ws.map V.str) ∧ ws.length = p.sources.length ∧ (∀ z ∈ ws, z ∈ p.words) ∧
  ∀ H', Same H H' → Q .non H'
section
variable {P : Program} {w : World} {K : PySem.W.Frag} {mg : Str → Option Value} {base : Heap}
theorem ok_truly (T : Tops w K mg) (G_TrueRun_init : FnOk P w K mg base CX0 2 T.a_TrueRun_init T.d_TrueRun_init ["self", "default", "known"] (spTrueRun K T.c_TrueRun))
    (G_do_rows : FnOk P w K mg base CX0 6 T.a_do_rows T.d_do_rows ["run", "rows"] (spDoRows K T.c_TrueRun 4)) :
    FnOk P w K mg base CX0 7 T.a_run_truly T.d_run_truly ["program", "known", "rows"] (spTruly K T.c_Program T.c_TrueRun) := by
  refine T.F_run_truly.ok sc_run_truly (fun vs H Q E h => ?_) (fun cdv A outer s H vs Q E hr h => ?_)
  · obtain ⟨pa, kd, v, p, m, rs, kn, S, rfl, _⟩ := h
    rfl
  obtain ⟨pa, kd, v, p, m, rs, kn, S, rfl, hP, ok, hK, hD, okr, hrd, hc, q⟩ := h
  obtain ⟨dx, aw, as, vd, ve, ⟨dn, en, e, hdn, hen⟩, h1, h2, h3, h4⟩ := hP.ex
  refine ⟨_, (pss_cons (ps_set (i := 3) sc_run_truly.nd rfl (Or.inl rfl) (pe_make T.k_TrueRun G_TrueRun_init (hr.mono (by omega)) rfl T.m_TrueRun T.b_TrueRun_init .nil pass0 (pa_cons (pe_ix ix_tup (pe_fld (pv 0) rfl) pe_int (fun _ _ => rfl)) (pa_cons (pv 1) pa_nil))))
    (pss_cons (ps_expr (pe_call G_do_rows (hr.mono (by omega)) rfl T.m_do_rows T.F_do_rows.kp T.b_do_rows .nil pass0 (pa_cons (pv 3) (pa_cons (pv 2) pa_nil))))
    (pss_one (ps_ret (pv 3))))), ?_⟩
  refine ⟨_, rfl, pa, _, dx, _, _, rfl, e, T.l_Program, T.n_Program_words, progF_words .., aw, _, 0, _, rfl, rfl, h1, d0_at ok, _, rfl, fun x dx2 hx hdx hne => ?_⟩
  have hs : Same H (upd (upd H dx2 (.own x)) x (.ins T.c_TrueRun dx2 [])) := (Same.new hdx _).trans (Same.new (by rw [upd_ne (Ne.symm hne)]; exact hx) _)
  refine ⟨x, dx2, kd, d0 p, H, rfl, upd_same, hs, hx, fun A' H1 hA hkd hd hR => ⟨rfl, ?_⟩⟩
  subst hA
  refine ⟨_, rfl, _, rfl, A', H, _, kn, v, rs, 0, S, 1, rfl, hR, by rw [hkd]; exact hK, hD, okr, hrd, ⟨Nat.le_refl _, Nat.le_refl _, Nat.le_refl _, Nat.le_refl _, Nat.le_refl _⟩, by omega, by omega, by omega, fun H2 hR2 => ?_⟩
  rw [hd] at hR2
  exact ⟨_, rfl, q A' H2 hkd hd hR2⟩
def spIsStart (K : PySem.W.Frag) (CP : Addr) : Sp := fun vs H Q _ => ∃ (pa wa : Addr) (p : PP) (m : Nat) (ws : List Str), vs = [.ref pa, .ref wa] ∧ ProgAt K H CP pa p ∧ p.Ok m ∧ SqT K H wa (ws.map V.str) ∧ ws.length = p.sources.length ∧ (∀ z ∈ ws, z ∈ p.words) ∧
  ∀ H', Same H H' → Q (.bl true) H'
theorem ok_is_start (T : Tops w K mg) : FnOk P w K mg base CX0 1 T.a_is_start T.d_is_start ["program", "words"] (spIsStart K T.c_Program) := by
  refine T.F_is_start.ok sc_is_start (fun vs H Q E h => ?_) (fun cdv A outer s H vs Q E hr h => ?_)
  · obtain ⟨pa, wa, p, m, ws, rfl, _⟩ := h
    rfl
  obtain ⟨pa, wa, p, m, ws, rfl, hP, ok, hW, hl, hw, q⟩ := h
  obtain ⟨dx, aw, as, vd, ve, ⟨dn, en, e, hdn, hen⟩, h1, h2, h3, h4⟩ := hP.ex
  have s4 := ok.s4
  refine ⟨_, (pss_cons (ps_if (PW.pt (pw_or (pt_not (pt_val (pe_callB call_isi rfl T.z_isinstance (by decide +kernel) (pa_cons (pv 1) (pa_cons (pe_bltn (v := .ty "tuple") rfl T.z_tuple (by decide +kernel) rfl) pa_nil))))) (pw_or1 (pt_cmpR op_ne (pe_callB call_len rfl T.z_len PySem.boot_len (pa_cons (pv 1) pa_nil)) (pe_callB call_len rfl T.z_len PySem.boot_len (pa_cons (pe_fld (pv 0) rfl) pa_nil)) (nomark _))))) (pss_one (ps_ret pe_bl)) pss_nil)
    (pss_one (ps_ret (pe_callB (cr_all rfl) rfl T.z_all (by decide +kernel) (pa_cons (pe_lc (own := [("word", 2)]) (g := gName 2) (tt := tYes) (te := tOp (rIn K false) (tVar 2) (tFld K (tVar 0) "words")) rfl sc_is_start.nd (pi_tup (pv 1)) (blkOk_by (own := [("word", 2)]) (N := N_is_start) (sc := defScope s_is_start) (by decide +kernel)) (fun _ _ _ _ _ => (pg_name (i := 2) sc_is_start.nd rfl (Or.inl rfl))) (fun _ _ _ _ _ => pts_nil) (fun _ _ _ _ _ => (pe_cmpR op_in_seq (pv 2) (pe_fld (pv 0) rfl) (by rfl)))) pa_nil))))), ?_⟩
  refine ⟨_, rfl, .ref wa, .ty "tuple", .type "tuple", .type "tuple", true, rfl, .ty _, ty_tup hW, kit_ty (by decide +kernel), true, rfl, iteF ?_⟩
  refine ⟨_, rfl, .ref wa, _, rfl, .inr ⟨_, hW, rfl⟩, _, rfl, pa, _, dx, _, _, rfl, e, T.l_Program, T.n_Program_sources, progF_sources .., .ref as, _, rfl, .inr ⟨_, h2, rfl⟩, rfl, _, rfl, ?_⟩
  refine if_false_of (by rw [List.length_map, List.length_map, hl]; show (!decide (V.int (p.sources.length : Nat) = V.int (p.sources.length : Nat))) = false; rw [decide_eq_true rfl]; rfl) ?_
  refine ⟨_, rfl, wa, rfl, ⟨_, hW⟩, fun D hD => lc_tup (K := K) (a := wa) (xs := ws.map V.str) (fun i H' => ∃ bs : List Bool, Same H H' ∧ H' D = some (.lst (bs.map V.bl)) ∧ bs.length = i ∧ bs.all id = true)
    ⟨[], Same.new hD _, upd_same, rfl, rfl⟩ (fun i H' _ ⟨_, hs, _⟩ => SqT.same hs hW) ?_ ?_⟩
  · rintro i x H' hx ⟨bs, hs, hb, hl', ha⟩
    rw [List.getElem?_map] at hx
    obtain ⟨z, hz, rfl⟩ := Option.map_eq_some_iff.mp hx
    have hi : i < ws.length := (List.getElem?_eq_some_iff.mp hz).1
    refine ⟨rfl, ?_⟩
    refine tYes_of ?_
    refine ⟨_, rfl, _, rfl, pa, _, dx, _, _, rfl, hs _ _ e, T.l_Program, T.n_Program_words, progF_words .., aw, _, rfl, .inr (SqT.same hs h1), rfl, L2.flat_strs _, ?_⟩
    refine ⟨_, hb, small1000 (by rw [List.length_map]; omega), bs ++ [true], ?_, by rw [upd_same, List.map_append, in_of (hw z (List.mem_of_getElem? hz))]; rfl, by rw [List.length_append, hl']; rfl, by rw [List.all_append, ha]; rfl⟩
    intro b o e
    rw [upd_ne (ne_of_none e hD)]
    exact hs b o e
  · rintro H' ⟨bs, hs, hb, hl', ha⟩
    refine ⟨D, bs, rfl, SqL.of hb, ?_⟩
    rw [ha]
    exact q H' hs
theorem ok_start (T : Tops w K mg) (G_is_start : FnOk P w K mg base CX0 1 T.a_is_start T.d_is_start ["program", "words"] (spIsStart K T.c_Program)) : FnOk P w K mg base CX0 2 T.a_check_start T.d_check_start ["program", "words"] (spStart K T.c_Program) := by
  refine T.F_check_start.ok sc_check_start (fun vs H Q E h => ?_) (fun cdv A outer s H vs Q E hr h => ?_)
  · obtain ⟨pa, wa, p, m, ws, rfl, _⟩ := h
    rfl
  obtain ⟨pa, wa, p, m, ws, rfl, hP, ok, hW, hl, hw, q⟩ := h
  refine ⟨_, (pss_one (ps_if (pt_not (pt_val (pe_call G_is_start (hr.mono (by omega)) rfl T.m_is_start T.F_is_start.kp T.b_is_start .nil pass0 (pa_cons (pv 0) (pa_cons (pv 1) pa_nil))))) (pss_one ps_never) pss_nil)), ?_⟩
  exact ⟨_, rfl, _, rfl, pa, wa, p, m, ws, rfl, hP, ok, hW, hl, hw, fun H' s' => ⟨_, rfl, if_false_of rfl (q H' s')⟩⟩
end
end K07
namespace K07
open PySem PySem.Spec PyProof.Rows L2 Td
/-- the words told, a derived cell's behind those ahead of it -/
def tell (d : Str) : Td.Env → List (Str × List Td.Row) → Td.Env
  | kn, [] => kn
  | kn, q :: ps => tell d (putE kn q.1 (runRs (knF kn) d q.2 (rs0 d)).1.given) ps
theorem tell_snoc (d : Str) : ∀ (ps : List (Str × List Td.Row)) (kn : Td.Env) (q : Str × List Td.Row), tell d kn (ps ++ [q]) = putE (tell d kn ps) q.1 (runRs (knF (tell d kn ps)) d q.2 (rs0 d)).1.given
  | [], kn, q => rfl
  | r :: ps, kn, q => tell_snoc d ps _ q
theorem tell_len (d : Str) : ∀ (ps : List (Str × List Td.Row)) (kn : Td.Env), (tell d kn ps).length ≤ kn.length + ps.length
  | [], kn => Nat.le_refl _
  | r :: ps, kn => by
    refine Nat.le_trans (tell_len d ps _) ?_
    have := putE_len kn r.1 (runRs (knF kn) d r.2 (rs0 d)).1.given
    rw [List.length_cons]; omega
theorem tell_has (d : Str) (c : Str) : ∀ (ps : List (Str × List Td.Row)) (kn : Td.Env), (getE kn c).isSome = true ∨ c ∈ ps.map (·.1) → (getE (tell d kn ps) c).isSome = true
  | [], kn, h => by
    rcases h with h | h
    · exact h
    · cases h
  | r :: ps, kn, h => by
    refine tell_has d c ps _ ?_
    rw [getE_put]
    by_cases e : c = r.1
    · exact .inl (by rw [if_pos e]; rfl)
    · rcases h with h | h
      · exact .inl (by rw [if_neg e]; exact h)
      · rcases List.mem_cons.mp h with h | h
        · exact absurd h e
        · exact .inr h
theorem zip_has {c : Str} : ∀ {ss ws : List Str}, c ∈ ss → ss.length = ws.length → (getE (ss.zip ws) c).isSome = true
  | [], _, h, _ => by cases h
  | s :: ss, [], _, h => by cases h
  | s :: ss, w :: ws, h, hl => by
    rw [List.zip_cons_cons, getE_cons]
    by_cases e : s = c
    · simp [e]
    · rw [if_neg e]
      refine zip_has ?_ (by simpa using hl)
      rcases List.mem_cons.mp h with h | h
      · exact absurd h.symm e
      · exact h
def known0 (p : PP) (ws : List Str) : Td.Env := tell (d0 p) (p.sources.zip ws) p.derived
theorem merge_kv (L : Td.Env) : ∀ M : Td.Env, ((M ++ L).map (·.1)).Nodup → mergeK (kv M) (kv L) = kv (M ++ L) := by
  induction L with
  | nil => intro M _; rw [List.append_nil]; rfl
  | cons p r ih =>
    intro M h
    have e : M ++ p :: r = (M ++ [p]) ++ r := by simp
    have hn : ¬ (M.any fun q => decide (q.1 = p.1)) = true := by
      intro hh
      obtain ⟨q, hq, he⟩ := List.any_eq_true.mp hh
      rw [List.map_append, List.map_cons] at h
      exact (List.nodup_append.mp h).2.2 q.1 (List.mem_map.mpr ⟨q, hq, rfl⟩) p.1 List.mem_cons_self (of_decide_eq_true he)
    have e2 : putE M p.1 p.2 = M ++ [p] := by unfold putE; rw [if_neg hn]
    rw [e] at h ⊢
    rw [← ih (M ++ [p]) h, ← e2, ← kv_put]
    rfl
theorem kv_zip (ss ws : List Str) : kv (ss.zip ws) = (ss.map Sum.inr : List Key).zip (ws.map V.str) := by
  unfold kv
  rw [List.zip_map]
  rfl
def spKnown (K : PySem.W.Frag) (CP : Addr) : Sp := fun vs H Q _ => ∃ (pa wa : Addr) (p : PP) (m : Nat) (ws : List Str), vs = [.ref pa, .ref wa] ∧ ProgAt K H CP pa p ∧ p.Ok m ∧ m ≤ 16 ∧ SqT K H wa (ws.map V.str) ∧ ws.length = p.sources.length ∧
  ∀ (kd : Addr) H', Same H H' → H' kd = some (.dK (kv (known0 p ws))) → Q (.ref kd) H'
theorem cellsNodup {p : PP} {m : Nat} (ok : p.Ok m) : p.sources.Nodup := by
  have h := ok.nn.nd
  unfold PP.names at h
  rw [List.append_assoc] at h
  exact h.sublist (List.sublist_append_left _ _)
section
variable {P : Program} {w : World} {K : PySem.W.Frag} {mg : Str → Option Value} {base : Heap}
theorem ok_known (T : Tops w K mg) (G_run_truly : FnOk P w K mg base CX0 7 T.a_run_truly T.d_run_truly ["program", "known", "rows"] (spTruly K T.c_Program T.c_TrueRun)) :
    FnOk P w K mg base CX0 8 T.a_known_words T.d_known_words ["program", "words"] (spKnown K T.c_Program) := by
  refine T.F_known_words.ok sc_known_words (fun vs H Q E h => ?_) (fun cdv A outer s H vs Q E hr h => ?_)
  · obtain ⟨pa, wa, p, m, ws, rfl, _⟩ := h
    rfl
  obtain ⟨pa, wa, p, m, ws, rfl, hP, ok, hm, hW, hl, q⟩ := h
  obtain ⟨dx, aw, as, vd, ve, ⟨dn, en, e, hdn, hen⟩, h1, h2, h3, h4⟩ := hP.ex
  have s4 := ok.s4
  have d6 := ok.d6
  obtain ⟨ad, xs, rfl, hA, hxl, hx⟩ := pairs_at h3
  refine ⟨_, (pss_cons (ps_set (i := 2) sc_known_words.nd rfl (Or.inl rfl) (pe_dictZip rfl rfl T.z_dict rfl T.z_zip (pa_cons (pe_fld (pv 0) rfl) (pa_cons (pv 1) pa_nil))))
    (pss_cons (ps_for PassesOwn.never rfl (pi_tup (pe_fld (pv 0) rfl)) (pg_tup rfl (pgs_cons (pg_name (i := 3) sc_known_words.nd rfl (Or.inl rfl)) (pgs_cons (pg_name (i := 4) sc_known_words.nd rfl (Or.inl rfl)) pgs_nil))) (pss_one (ps_dput (hu_of hr) (pv 2) (pv 3) (pe_fld (pe_call G_run_truly (hr.mono (by omega)) rfl T.m_run_truly T.F_run_truly.kp T.b_run_truly .nil pass0 (pa_cons (pv 0) (pa_cons (pv 2) (pa_cons (pv 4) pa_nil)))) rfl) rfl)))
    (pss_one (ps_ret (pv 2))))), ?_⟩
  refine ⟨_, rfl, pa, _, dx, _, _, rfl, e, T.l_Program, T.n_Program_sources, progF_sources .., _, rfl, as, wa, p.sources.map Sum.inr, ws.map V.str, rfl, by rw [List.map_map]; exact h2, hW, by rw [List.length_map, List.length_map, hl], fun kd hkd => ?_⟩
  have em : mergeK [] ((p.sources.map Sum.inr : List Key).zip (ws.map V.str)) = kv (p.sources.zip ws) := by
    rw [← kv_zip]
    refine merge_kv (p.sources.zip ws) [] ?_
    rw [List.nil_append, List.map_fst_zip (Nat.le_of_eq hl.symm)]
    exact cellsNodup ok
  rw [em]
  have hs0 : Same H (upd H kd (.dK (kv (p.sources.zip ws)))) := Same.new hkd _
  have hK0 : upd H kd (.dK (kv (p.sources.zip ws))) kd = some (.dK (kv (p.sources.zip ws))) := upd_same
  dsimp only
  generalize upd H kd (.dK (kv (p.sources.zip ws))) = H1 at hs0 hK0
  have zl : (p.sources.zip ws).length ≤ 4 := by rw [List.length_zip]; omega
  refine ⟨_, rfl, pa, _, dx, _, _, rfl, hs0 _ _ e, T.l_Program, T.n_Program_derived, progF_derived .., ad, rfl, ⟨_, SqT.same hs0 hA⟩, for_tup (K := K) (a := ad) (xs := xs) (fun i σ H' => ∃ (v3 v4 : Option V), σ = [some (.ref pa), some (.ref wa), some (.ref kd), v3, v4] ∧ Same H H' ∧ H' kd = some (.dK (kv (tell (d0 p) (p.sources.zip ws) (p.derived.take i)))))
    ⟨none, none, rfl, hs0, hK0⟩ (fun i σ H' _ ⟨_, _, _, hs, _⟩ => SqT.same hs hA) ?_ ?_⟩
  · rintro i x σ H2 hi ⟨v3, v4, rfl, hs, hK⟩
    obtain ⟨qq, b, vr, hq, rfl, hB, hT⟩ := hx i x hi
    obtain ⟨okd, hcd⟩ := okDer_get ok.der hq
    refine ⟨b, _, rfl, SqT.same hs hB, rfl, _, _, rfl, _, _, rfl, rfl, ?_⟩
    refine ⟨_, rfl, _, rfl, _, rfl, pa, kd, vr, p, m, qq.2, _, _, rfl, hP.same hs, ok, hK, Dp.same hs hT.dp, okd, fun c hc => ?_, by omega, fun A' H3 hkd' hd' hR => ?_⟩
    · refine tell_has _ _ _ _ ?_
      rcases List.mem_append.mp hc with h | h
      · exact .inl (zip_has h hl.symm)
      · exact .inr h
    · obtain ⟨dx2, e2⟩ := hR.ob
      have hlen := tell_len (d0 p) (p.derived.take i) (p.sources.zip ws)
      have htk : (p.derived.take i).length ≤ 6 := by rw [List.length_take]; omega
      refine ⟨A'.ra, _, dx2, _, _, rfl, e2, T.l_TrueRun, T.n_TrueRun_given, fl_given .., _, rfl, _, rfl, kd, _, rfl, put_kv (hR.same _ _ hK) (small1000 (by omega)), _, _, rfl, own_same (hs.trans hR.same) hkd, ?_⟩
      rw [upd_same, take_more hq, tell_snoc]
  · rintro σ H2 ⟨v3, v4, rfl, hs, hK⟩
    rw [hxl, List.take_length] at hK
    exact ⟨_, rfl, q kd H2 hs hK⟩
end
end K07
namespace K07
open PySem PySem.Spec PyProof.Rows L2 Td
def envD (L : Td.Env) : PyData := .tuple (L.map wrD)
def ansK (vn vp vs vw : Addr) (vo : V) : List (Key × V) := [(.inr "notes", .ref vn), (.inr "peeks", .ref vp), (.inr "says", .ref vs), (.inr "writes", .ref vw), (.inr "word", vo)]
theorem ansK_merge (vn vp vs vw : Addr) (vo : V) : mergeK [] (ansK vn vp vs vw vo) = ansK vn vp vs vw vo := by kernel_rfl
def wordV (dv : Bool) (g : Str) : V := if dv then .str g else .non
structure AnsAt (K : PySem.W.Frag) (H : Hp) (a : Addr) (st : RS) (dv : Bool) : Prop where
  ex : ∃ vn vp vs vw : Addr, H a = some (.dK (ansK vn vp vs vw (wordV dv st.given))) ∧ Tn K H (.ref vn) (envD st.noted) ∧ Tn K H (.ref vp) (envD st.peeked) ∧ Tn K H (.ref vs) (strsD st.said) ∧ Tn K H (.ref vw) (envD st.written)
theorem AnsAt.same {K : PySem.W.Frag} {H H' : Hp} {a : Addr} {st : RS} {dv : Bool} (h : AnsAt K H a st dv) (s : Same H H') : AnsAt K H' a st dv := by
  obtain ⟨vn, vp, vs, vw, e, h1, h2, h3, h4⟩ := h.ex
  exact ⟨vn, vp, vs, vw, s _ _ e, Tn.same s h1, Tn.same s h2, Tn.same s h3, Tn.same s h4⟩
/-- how a body runs -/
def runOf (p : PP) (ws : List Str) (rs : List Td.Row) : RS := (runRs (knF (known0 p ws)) (d0 p) rs (rs0 (d0 p))).1
def isDer (p : PP) (z : Str) : Bool := decide (z ∈ p.derived.map (·.1))
def spTrue (K : PySem.W.Frag) (CP : Addr) : Sp := fun vs H Q _ => ∃ (pa wa : Addr) (z : Str) (p : PP) (m : Nat) (ws : List Str) (q : Str × List Td.Row), vs = [.ref pa, .ref wa, .str z] ∧ ProgAt K H CP pa p ∧ p.Ok m ∧ m ≤ 16 ∧ SqT K H wa (ws.map V.str) ∧ ws.length = p.sources.length ∧ (∀ z ∈ ws, z ∈ p.words) ∧
  q ∈ p.derived ++ p.effects ∧ q.1 = z ∧ ∀ (a : Addr) H', Same H H' → H a = none → AnsAt K H' a (runOf p ws q.2) (isDer p z) → Q (.ref a) H'
theorem pairs_tn {K : PySem.W.Frag} {H : Hp} {ts : List Addr} {L : Td.Env} (h : Paired (fun (t : Addr) (q : Key × V) => H t = some (.tup [kV q.1, q.2])) ts (kv L)) : TnAll K H (ts.map V.ref) (L.map wrD) := by
  induction L generalizing ts with
  | nil => cases h; exact .nil
  | cons p r ih =>
    unfold kv at h
    rw [List.map_cons] at h
    cases h with
    | cons a b => exact .cons (.tup (SqT.of a) (.cons (.str _) (.cons (.str _) .nil))) (ih b)
theorem body_scope {p : PP} {m : Nat} {ws : List Str} {q : Str × List Td.Row} (ok : p.Ok m) (hl : ws.length = p.sources.length) (hin : q ∈ p.derived ++ p.effects) :
    ∃ S : Sc, okRs S 1 q.2 ∧ (∀ c ∈ S.readable, (getE (known0 p ws) c).isSome = true) ∧ cnts q.2 ≤ m := by
  have has : ∀ c, c ∈ p.sources ∨ c ∈ p.derived.map (·.1) → (getE (known0 p ws) c).isSome = true := fun c h => by
    refine tell_has _ _ _ _ ?_
    rcases h with h | h
    · exact .inl (zip_has h hl.symm)
    · exact .inr h
  rcases List.mem_append.mp hin with h | h
  · obtain ⟨i, hi⟩ := List.getElem?_of_mem h
    obtain ⟨h1, h2⟩ := okDer_get ok.der hi
    refine ⟨_, h1, fun c hc => has c ?_, h2⟩
    rcases List.mem_append.mp hc with hc | hc
    · exact .inl hc
    · obtain ⟨r, hr, e⟩ := List.mem_map.mp hc
      exact .inr (List.mem_map.mpr ⟨r, List.mem_of_mem_take hr, e⟩)
  · obtain ⟨i, hi⟩ := List.getElem?_of_mem h
    obtain ⟨h1, h2⟩ := okEff_get ok.eff hi
    exact ⟨_, h1, fun c hc => has c (List.mem_append.mp hc), h2⟩
theorem free_of {H0 H : Hp} {a : Addr} (s : Same H0 H) (h : H a = none) : H0 a = none := by
  cases e : H0 a with
  | none => rfl
  | some o => rw [s _ _ e] at h; cases h
theorem der_eff {p : PP} {m : Nat} {q : Str × List Td.Row} (ok : p.Ok m) (hin : q ∈ p.derived ++ p.effects) : decide (q.1 ∈ p.effects.map (·.1)) = !isDer p q.1 := by
  have nd := ok.nn.nd
  unfold PP.names at nd
  rw [List.append_assoc] at nd
  have nd2 := nd.sublist (List.sublist_append_right _ _)
  have dj := (List.nodup_append.mp nd2).2.2
  unfold isDer
  rcases List.mem_append.mp hin with h | h
  · have h1 : q.1 ∈ p.derived.map (·.1) := List.mem_map.mpr ⟨q, h, rfl⟩
    rw [decide_eq_true h1, decide_eq_false fun h2 => dj _ h1 _ h2 rfl]
    rfl
  · have h1 : q.1 ∈ p.effects.map (·.1) := List.mem_map.mpr ⟨q, h, rfl⟩
    rw [decide_eq_true h1, decide_eq_false fun h2 => dj _ h2 _ h1 rfl]
    rfl
theorem few0 (d : Str) : (rs0 d).Few 0 := ⟨Nat.le_refl _, Nat.le_refl _, Nat.le_refl _, Nat.le_refl _, Nat.le_refl _⟩
section
variable {P : Program} {w : World} {K : PySem.W.Frag} {mg : Str → Option Value} {base : Heap}
def spRecParts (K : PySem.W.Frag) (C : Addr) : Sp := fun vs H Q _ => ∃ (A : RA) (dx : Addr) (st : RS) (dv : Bool), vs = [.ref A.ra] ∧ H A.ra = some (.ins C dx (A.fldsV (wordV dv st.given))) ∧
  H A.pn = some (.dK (kv st.noted)) ∧ H A.pp = some (.dK (kv st.peeked)) ∧ H A.pd = some (.lst (st.said.map V.str)) ∧ (∃ xs, H A.pw = some (.lst xs) ∧ TnAll K H xs (st.written.map wrD)) ∧
  ∀ (a : Addr) H', Same H H' → H a = none → AnsAt K H' a st dv → Q (.ref a) H'
theorem ok_parts_of (T : Tops w K mg) : FnOk P w K mg base CX0 1 T.a_Record_parts T.d_Record_parts ["self"] (spRecParts K T.c_TrueRun) := by
  refine T.F_Record_parts.ok sc_Record_parts (fun vs H Q E h => ?_) (fun cdv A outer s H vs Q E hr h => ?_)
  · obtain ⟨A', dx, st, dv, rfl, _⟩ := h
    rfl
  obtain ⟨A', dx2, st, dv, rfl, e2, hn, hp, hsd, ⟨xw, w1, w2⟩, q⟩ := h
  refine ⟨_, (pss_one (ps_ret (pe_disp (pps_cons pe_str (pe_tupleItems rfl (pe_fld (pv 0) rfl) rfl T.z_tuple) (pps_cons pe_str (pe_tupleItems rfl (pe_fld (pv 0) rfl) rfl T.z_tuple) (pps_cons pe_str (pe_callTy call_tuple_of rfl T.z_tuple (by decide +kernel) (pa_cons (pe_fld (pv 0) rfl) pa_nil)) (pps_cons pe_str (pe_callTy call_tuple_of rfl T.z_tuple (by decide +kernel) (pa_cons (pe_fld (pv 0) rfl) pa_nil)) (pps_cons pe_str (pe_fld (pv 0) rfl) pps_nil))))) (by rfl) (by rfl) (fun z => by cases z) (by decide)))), ?_⟩
  refine fun pd hpd => ?_
  have s5 : Same H (upd H pd (.dK [])) := Same.new hpd _
  have p5 : upd H pd (.dK []) pd = some (.dK []) := upd_same
  generalize upd H pd (.dK []) = H5 at s5 p5
  refine ⟨_, rfl, A'.ra, _, dx2, _, _, rfl, s5 _ _ e2, T.l_TrueRun, T.n_TrueRun_noted, fv_noted .., A'.pn, _, rfl, s5 _ _ hn, fun H6 vn ts6 s6 _ v6 q6 => ?_⟩
  have s46 := s5.trans s6
  have t6 : Tn K H6 (.ref vn) (envD st.noted) := .tup (SqT.of v6) (pairs_tn q6)
  refine ⟨_, rfl, A'.ra, _, dx2, _, _, rfl, s46 _ _ e2, T.l_TrueRun, T.n_TrueRun_peeked, fv_peeked .., A'.pp, _, rfl, s46 _ _ hp, fun H7 vp ts7 s7 _ v7 q7 => ?_⟩
  have s47 := s46.trans s7
  have t7 : Tn K H7 (.ref vp) (envD st.peeked) := .tup (SqT.of v7) (pairs_tn q7)
  refine ⟨_, rfl, A'.ra, _, dx2, _, _, rfl, s47 _ _ e2, T.l_TrueRun, T.n_TrueRun_said, fv_said .., A'.pd, _, rfl, .inl ⟨SqL.of (s47 _ _ hsd), fun vs hvs => ?_⟩⟩
  have s8 : Same H7 (upd H7 vs (.tup (st.said.map V.str))) := Same.new hvs _
  have t8 : Tn K (upd H7 vs (.tup (st.said.map V.str))) (.ref vs) (strsD st.said) := .tup (SqT.of upd_same) (TnAll.strs _)
  generalize upd H7 vs (.tup (st.said.map V.str)) = H8 at s8 t8
  have s48 := s47.trans s8
  refine ⟨_, rfl, A'.ra, _, dx2, _, _, rfl, s48 _ _ e2, T.l_TrueRun, T.n_TrueRun_written, fv_written .., A'.pw, _, rfl, .inl ⟨SqL.of (s48 _ _ w1), fun vw hvw => ?_⟩⟩
  have s9 : Same H8 (upd H8 vw (.tup xw)) := Same.new hvw _
  have t9 : Tn K (upd H8 vw (.tup xw)) (.ref vw) (envD st.written) := .tup (SqT.of upd_same) (TnAll.keep (TK.of_same (s48.trans s9)) w2)
  generalize upd H8 vw (.tup xw) = H9 at s9 t9
  have s49 := s48.trans s9
  refine ⟨_, rfl, A'.ra, _, dx2, _, _, rfl, s49 _ _ e2, T.l_TrueRun, T.n_TrueRun_given, fv_given .., ?_⟩
  have s59 := ((s6.trans s7).trans s8).trans s9
  have p9 : H9 pd = some (.dK []) := s59 _ _ p5
  refine ⟨p9, ansK vn vp vs vw (wordV dv st.given), rfl, by show 5 ≤ 15; decide, ?_⟩
  rw [ansK_merge]
  have s0 : Same H (upd H9 pd (.dK (ansK vn vp vs vw (wordV dv st.given)))) := own_same s49 hpd
  have tk : ∀ {X : Hp}, Same X H9 → TK X (upd H9 pd (.dK (ansK vn vp vs vw (wordV dv st.given)))) := fun sx => (TK.of_same sx).trans (TK.upd (by rw [p9]; trivial))
  exact q pd _ s0 hpd ⟨vn, vp, vs, vw, upd_same, Tn.keep (tk ((s7.trans s8).trans s9)) t6, Tn.keep (tk (s8.trans s9)) t7, Tn.keep (tk s9) t8, Tn.keep (tk (Same.refl _)) t9⟩
theorem ok_true (T : Tops w K mg)
    (G_check_start : FnOk P w K mg base CX0 2 T.a_check_start T.d_check_start ["program", "words"] (spStart K T.c_Program))
    (G_Program_body : FnOk P w K mg base CX0 1 T.a_Program_body T.d_Program_body ["self", "name"] (spBodyOf K T.c_Program))
    (G_Program_effect_names : FnOk P w K mg base CX0 2 T.a_Program_effect_names T.d_Program_effect_names ["self"] (spEffectNames K T.c_Program))
    (G_known_words : FnOk P w K mg base CX0 8 T.a_known_words T.d_known_words ["program", "words"] (spKnown K T.c_Program))
    (G_run_truly : FnOk P w K mg base CX0 7 T.a_run_truly T.d_run_truly ["program", "known", "rows"] (spTruly K T.c_Program T.c_TrueRun))
    (G_Record_parts : FnOk P w K mg base CX0 1 T.a_Record_parts T.d_Record_parts ["self"] (spRecParts K T.c_TrueRun)) :
    FnOk P w K mg base CX0 9 T.a_true_run T.d_true_run ["program", "words", "name"] (spTrue K T.c_Program) := by
  refine T.F_true_run.ok sc_true_run (fun vs H Q E h => ?_) (fun cdv A outer s H vs Q E hr h => ?_)
  · obtain ⟨pa, wa, z, p, m, ws, qq, rfl, _⟩ := h
    rfl
  obtain ⟨pa, wa, z, p, m, ws, qq, rfl, hP, ok, hm, hW, hl, hw, hin, rfl, q⟩ := h
  have s4 := ok.s4
  have d6 := ok.d6
  refine ⟨_, (pss_cons (ps_expr (pe_call G_check_start (hr.mono (by omega)) rfl T.m_check_start T.F_check_start.kp T.b_check_start .nil pass0 (pa_cons (pv 0) (pa_cons (pv 1) pa_nil))))
    (pss_cons (ps_set (i := 3) sc_true_run.nd rfl (Or.inl rfl) (pe_meth (pv 0) T.l_Program T.t_Program_body G_Program_body (hr.mono (by omega)) T.b_Program_body .nil pass0 (pa_cons (pv 2) pa_nil)))
    (pss_cons (ps_set (i := 4) sc_true_run.nd rfl (Or.inl rfl) (pe_call G_run_truly (hr.mono (by omega)) rfl T.m_run_truly T.F_run_truly.kp T.b_run_truly .nil pass0 (pa_cons (pv 0) (pa_cons (pe_call G_known_words (hr.mono (by omega)) rfl T.m_known_words T.F_known_words.kp T.b_known_words .nil pass0 (pa_cons (pv 0) (pa_cons (pv 1) pa_nil))) (pa_cons (pv 3) pa_nil)))))
    (pss_cons (ps_if (pt_cmpR op_in_seq (pv 2) (pe_meth0 (pv 0) T.l_Program T.t_Program_effect_names G_Program_effect_names (hr.mono (by omega)) T.b_Program_effect_names .nil pass0) (by rfl)) (pss_one (ps_fld (pv 4) pe_non rfl)) pss_nil)
    (pss_one (ps_ret (pe_meth0 (pv 4) T.l_TrueRun T.t_TrueRun_parts G_Record_parts (hr.mono (by omega)) T.b_Record_parts .nil pass0))))))), ?_⟩
  refine ⟨_, rfl, _, rfl, pa, wa, p, m, ws, rfl, hP, ok, hW, hl, hw, fun H1 s1 => ?_⟩
  have hP1 := hP.same s1
  obtain ⟨dx, aw, as, vd, ve, ⟨dn, en, e, hdn, hen⟩, g1, g2, g3, g4⟩ := hP1.ex
  refine ⟨_, rfl, pa, dx, _, rfl, e, by kernel_rfl, _, rfl, pa, qq.1, p, m, qq, rfl, hP1, ok, hin, rfl, fun v H2 s2 hv => ?_⟩
  have s12 := s1.trans s2
  refine ⟨_, rfl, _, rfl, _, rfl, pa, wa, p, m, ws, rfl, hP.same s12, ok, hm, SqT.same s12 hW, hl, fun kd H3 s3 hk => ?_⟩
  have s13 := s12.trans s3
  obtain ⟨S, k1, k2, k3⟩ := body_scope (ws := ws) ok hl hin
  refine ⟨_, rfl, pa, kd, v, p, m, qq.2, _, S, rfl, hP.same s13, ok, hk, Tn.dp (Tn.same s3 hv), k1, k2, by omega, fun A' H4 hkd hd hR => ?_⟩
  have s14 := s13.trans hR.same
  have eR : (runRs (knF (known0 p ws)) (d0 p) qq.2 (rs0 (d0 p))).1 = runOf p ws qq.2 := rfl
  rw [eR] at hR
  generalize runOf p ws qq.2 = st at hR q
  obtain ⟨dx2, e2⟩ := hR.ob
  have hP4 := hP.same s14
  obtain ⟨dx4, _, _, _, _, ⟨_, _, e4, _, _⟩, _⟩ := hP4.ex
  refine ⟨_, rfl, _, rfl, pa, dx4, _, rfl, e4, by kernel_rfl, pa, p, m, rfl, hP4, ok, fun tn H5 s5 htn => ?_⟩
  have htn' : SqT K H5 tn ((p.effects.map (·.1)).map V.str) := by rw [List.map_map]; exact htn
  have hR5 := hR.go s5
  have hra := hR.f0
  obtain ⟨xw, w1, w2⟩ := hR5.wr
  refine ⟨tn, _, rfl, .inr htn', rfl, L2.flat_strs _, _, rfl, ?_⟩
  have ein : inV (.str qq.1) ((p.effects.map (·.1)).map V.str) = !isDer p qq.1 := (inV_strs _ _).trans (der_eff ok hin)
  have e5 := s5 _ _ e2
  have s15 : Same H H5 := s14.trans s5
  have free : ∀ {X : Hp} {a : Addr}, Same H5 X ∨ Same H X → X a = none → H a = none := fun {X a} hs hn => by
    rcases hs with hs | hs
    · exact free_of s15 (free_of hs hn)
    · exact free_of hs hn
  cases hd : isDer p qq.1 with
  | true =>
    refine if_false_of (by rw [ein, hd]; rfl) ?_
    refine ⟨_, rfl, A'.ra, dx2, _, rfl, e5, fl_none2 A' _, A', dx2, st, true, rfl, e5, hR5.no, hR5.pe, hR5.sa, ⟨xw, w1, w2⟩, fun a H6 s6 ha hA => ?_⟩
    exact q a H6 (s15.trans s6) (free (.inl (Same.refl _)) ha) (by rw [hd]; exact hA)
  | false =>
    refine if_true_of (by rw [ein, hd]; rfl) ?_
    refine ⟨_, rfl, A'.ra, T.c_TrueRun, dx2, _, rfl, e5, T.l_TrueRun, T.n_TrueRun_given, Nat.lt_of_le_of_lt (m := 8) (Nat.le_of_eq (by kernel_rfl)) (by decide), ?_⟩
    rw [fl_giveV]
    have s6 : Same H3 (upd H5 A'.ra (.ins T.c_TrueRun dx2 (A'.fldsV .non))) := own_same hR5.same hra
    have ne : ∀ {b : Addr} {o : HO}, H5 b = some o → (∀ D dx fs, o ≠ .ins D dx fs) → b ≠ A'.ra := fun {b o} h1 h2 z => by
      rw [z, e5] at h1
      exact h2 _ _ _ (Option.some.inj h1).symm
    refine ⟨_, rfl, A'.ra, dx2, _, rfl, upd_same, fl_none2 A' _, A', dx2, st, false, rfl, upd_same, ?_, ?_, ?_, ⟨xw, ?_, TnAll.keep (TK.upd (by rw [e5]; trivial)) w2⟩, fun a H7 s7 ha hA => ?_⟩
    · rw [upd_ne (ne hR5.no (by intro D dx fs z; cases z))]; exact hR5.no
    · rw [upd_ne (ne hR5.pe (by intro D dx fs z; cases z))]; exact hR5.pe
    · rw [upd_ne (ne hR5.sa (by intro D dx fs z; cases z))]; exact hR5.sa
    · rw [upd_ne (ne w1 (by intro D dx fs z; cases z))]; exact w1
    · exact q a H7 ((s13.trans s6).trans s7) (free (.inr (s13.trans s6)) ha) (by rw [hd]; exact hA)
end
end K07
namespace K07
open PySem PySem.Spec PyProof.Rows L2 Td
theorem env_at {K : PySem.W.Frag} {H : Hp} {v : V} {L : Td.Env} (h : Tn K H v (envD L)) : ∃ (a : Addr) (xs : List V), v = .ref a ∧ SqT K H a xs ∧ TnAll K H xs (L.map wrD) ∧ xs.length = L.length ∧
    ∀ (i : Nat) (x : V), xs[i]? = some x → ∃ (q : Str × Str) (b : Addr), L[i]? = some q ∧ x = .ref b ∧ SqT K H b [.str q.1, .str q.2] := by
  obtain ⟨a, xs, rfl, hS, hT⟩ := Tn.tup_inv h
  have hl := hT.length
  rw [List.length_map] at hl
  refine ⟨a, xs, rfl, hS, hT, hl, fun i x hx => ?_⟩
  have hi : i < L.length := by rw [← hl]; exact (List.getElem?_eq_some_iff.mp hx).1
  obtain ⟨dd, h1, h2⟩ := TnAll.get hT hx
  rw [List.getElem?_map, List.getElem?_eq_getElem hi] at h1
  cases h1
  obtain ⟨b, ys, rfl, hS2, hT2⟩ := Tn.tup_inv h2
  cases hT2 with
  | cons c1 c2 =>
    cases c1
    cases c2 with
    | cons c3 c4 =>
      cases c3
      cases c4
      exact ⟨_, b, List.getElem?_eq_getElem hi, rfl, hS2⟩
theorem ans_notes (vn vp vs vw : Addr) (vo : V) : valV (ansK vn vp vs vw vo) (.inr "notes") = some (.ref vn) := by kernel_rfl
theorem ans_peeks (vn vp vs vw : Addr) (vo : V) : valV (ansK vn vp vs vw vo) (.inr "peeks") = some (.ref vp) := by kernel_rfl
def spSame (K : PySem.W.Frag) : Sp := fun vs H Q _ => ∃ (an td : Addr) (st : RS) (dv : Bool) (tl : Td.Env) (n : Nat), vs = [.ref an, .ref td] ∧ AnsAt K H an st dv ∧ H td = some (.dK (kv tl)) ∧ st.Few n ∧ n ≤ 400 ∧
  (∀ q ∈ st.noted ++ st.peeked, (getE tl q.1).isSome = true) ∧ ∀ H', Same H H' → Q (.bl (agree (knF tl) st)) H'
section
variable {P : Program} {w : World} {K : PySem.W.Frag} {mg : Str → Option Value} {base : Heap}
theorem ok_same (T : Tops w K mg) : FnOk P w K mg base CX0 1 T.a__law_same T.d__law_same ["_law_answer", "_law_told"] (spSame K) := by
  refine T.F__law_same.ok sc_law_same (fun vs H Q E h => ?_) (fun cdv A outer s H vs Q E hr h => ?_)
  · obtain ⟨an, td, st, dv, tl, n, rfl, _⟩ := h
    rfl
  obtain ⟨an, td, st, dv, tl, n, rfl, hA, hT, few, hn, has, q⟩ := h
  obtain ⟨vn, vp, vs, vw, e, h1, h2, h3, h4⟩ := hA.ex
  obtain ⟨a1, xs, e1, hS1, hT1, l1, _⟩ := env_at h1
  obtain ⟨a2, ys, e2, hS2, hT2, l2, _⟩ := env_at h2
  cases e1
  cases e2
  have f1 := few.no
  have f2 := few.pe
  have g1 : DGet H an (.str "notes") (some (.ref vn)) := by
    have h := DGet.k (k := .inr "notes") e
    rw [ans_notes] at h
    exact h
  have g2 : DGet H an (.str "peeks") (some (.ref vp)) := by
    have h := DGet.k (k := .inr "peeks") e
    rw [ans_peeks] at h
    exact h
  refine ⟨_, (pss_cons (ps_for PassesOwn.never rfl (pi_tup (pe_op op_catA (pe_dget (hu_of hr) (pv 0) pe_str (fun _ _ => rfl)) (pe_dget (hu_of hr) (pv 0) pe_str (fun _ _ => rfl)))) (pg_name (i := 2) sc_law_same.nd rfl (Or.inl rfl)) (pss_one (ps_if (pt_cmpR op_ne (pe_dget (hu_of hr) (pv 1) (pe_ix ix_tup (pv 2) pe_int (fun _ _ => rfl)) (fun _ _ => rfl)) (pe_ix ix_tup (pv 2) pe_int (fun _ _ => rfl)) (nomark _)) (pss_one (ps_ret pe_bl)) pss_nil)))
    (pss_one (ps_ret pe_bl))), ?_⟩
  refine ⟨_, rfl, an, _, rfl, g1, _, rfl, an, _, rfl, g2, ?_⟩
  refine cat_all hS1 hS2 (Nat.le_of_lt (small1000 (by omega))) (fun c H1 s1 hc => ?_)
  have hTn : Tn K H1 (.ref c) (envD (st.noted ++ st.peeked)) := .tup hc (by rw [List.map_append]; exact TnAll.keep (TK.of_same s1) (TnAll.append hT1 hT2))
  obtain ⟨c', zs, e3, hC, _, hl, hx⟩ := env_at hTn
  cases e3
  refine ⟨c, rfl, ⟨_, hC⟩, for_tup (K := K) (a := c) (xs := zs) (fun i σ H' => ∃ (v2 : Option V), σ = [some (.ref an), some (.ref td), v2] ∧ Same H1 H' ∧ ∀ j r, j < i → (st.noted ++ st.peeked)[j]? = some r → knF tl r.1 = r.2)
    ⟨none, rfl, Same.refl _, fun j r h => absurd h (Nat.not_lt_zero j)⟩ (fun i σ H' _ ⟨_, _, hs, _⟩ => SqT.same hs hC) ?_ ?_⟩
  · rintro i x σ H2 hi ⟨v2, rfl, hs, hno⟩
    obtain ⟨r, b, hr1, rfl, hB⟩ := hx i x hi
    have s2 := s1.trans hs
    refine ⟨_, rfl, _, rfl, b, _, 0, _, rfl, rfl, SqT.same hs hB, rfl, td, _, rfl, get_known (s2 _ _ hT) (has r (List.mem_of_getElem? hr1)), ?_⟩
    refine ⟨_, rfl, b, _, 1, _, rfl, rfl, SqT.same hs hB, rfl, rfl, _, rfl, ?_⟩
    by_cases en : knF tl r.1 = r.2
    · refine if_false_of (by rw [en]; show (!decide (V.str r.2 = V.str r.2)) = false; rw [decide_eq_true rfl]; rfl) ⟨_, rfl, hs, fun j r' hj hr' => ?_⟩
      by_cases ej : j = i
      · subst ej; rw [hr1] at hr'; cases hr'; exact en
      · exact hno j r' (by omega) hr'
    · refine if_true_of (by show (!decide (V.str (knF tl r.1) = V.str r.2)) = true; rw [decide_eq_false (fun h => en (by injection h))]; rfl) ?_
      have ea : agree (knF tl) st = false := by
        unfold agree
        rw [List.all_eq_false]
        exact ⟨r, List.mem_of_getElem? hr1, by rw [decide_eq_false en]; simp⟩
      have h := q H2 s2
      rw [ea] at h
      exact h
  · rintro σ H2 ⟨v2, rfl, hs, hno⟩
    have ea : agree (knF tl) st = true := by
      unfold agree
      rw [List.all_eq_true]
      intro r hr
      obtain ⟨j, hj⟩ := List.getElem?_of_mem hr
      exact decide_eq_true (hno j r (by rw [hl]; exact (List.getElem?_eq_some_iff.mp hj).1) hj)
    have h := q H2 (s1.trans hs)
    rw [ea] at h
    exact h
end
end K07
namespace K07
open PySem PySem.Spec PyProof.Rows L2 Td
def recK (r1 r2 r3 r4 : Addr) : List (Key × V) := [(.inr "read", .ref r1), (.inr "peek", .ref r2), (.inr "say", .ref r3), (.inr "write", .ref r4)]
theorem recK_read (r1 r2 r3 r4 : Addr) : valV (recK r1 r2 r3 r4) (.inr "read") = some (.ref r1) := by kernel_rfl
theorem recK_merge (r1 r2 r3 r4 : Addr) : mergeK [] (recK r1 r2 r3 r4) = recK r1 r2 r3 r4 := by kernel_rfl
/-- the law's own run of a derived body -/
structure OwnAt (K : PySem.W.Frag) (H0 H : Hp) (ps rc r1 : Addr) (sl : Td.Env) (n m : Nat) : Prop where
  same : Same H0 H
  fp : H0 ps = none
  fr : H0 r1 = none
  nc : rc ≠ ps
  sa : H ps = some (.dK (kv sl))
  rcd : ∃ r2 r3 r4, H rc = some (.dK (recK r1 r2 r3 r4))
  ls : ∃ (xs : List V) (L : Td.Env), H r1 = some (.lst xs) ∧ TnAll K H xs (L.map wrD) ∧ xs.length ≤ m
  few : sl.length ≤ n
theorem OwnAt.mono {K : PySem.W.Frag} {H0 H : Hp} {ps rc r1 : Addr} {sl : Td.Env} {n m n' m' : Nat} (h : OwnAt K H0 H ps rc r1 sl n m) (l : n ≤ n') (l2 : m ≤ m') : OwnAt K H0 H ps rc r1 sl n' m' := by
  obtain ⟨xs, L, a, b, c⟩ := h.ls
  exact ⟨h.same, h.fp, h.fr, h.nc, h.sa, h.rcd, ⟨xs, L, a, b, Nat.le_trans c l2⟩, Nat.le_trans h.few l⟩
theorem OwnAt.go {K : PySem.W.Frag} {H0 H H' : Hp} {ps rc r1 : Addr} {sl : Td.Env} {n m : Nat} (h : OwnAt K H0 H ps rc r1 sl n m) (s : Same H H') : OwnAt K H0 H' ps rc r1 sl n m := by
  obtain ⟨xs, L, a, b, c⟩ := h.ls
  obtain ⟨r2, r3, r4, e⟩ := h.rcd
  exact ⟨h.same.trans s, h.fp, h.fr, h.nc, s _ _ h.sa, ⟨r2, r3, r4, s _ _ e⟩, ⟨xs, L, s _ _ a, TnAll.keep (TK.of_same s) b, c⟩, h.few⟩
theorem OwnAt.put {K : PySem.W.Frag} {H0 H : Hp} {ps rc r1 : Addr} {sl : Td.Env} {n m : Nat} (h : OwnAt K H0 H ps rc r1 sl n m) (k v : Str) : OwnAt K H0 (upd H ps (.dK (kv (putE sl k v)))) ps rc r1 (putE sl k v) (n + 1) m := by
  obtain ⟨xs, L, a, b, c⟩ := h.ls
  obtain ⟨r2, r3, r4, e⟩ := h.rcd
  have l := putE_len sl k v
  have f := h.few
  exact ⟨own_same h.same h.fp, h.fp, h.fr, h.nc, upd_same, ⟨r2, r3, r4, by rw [upd_ne h.nc]; exact e⟩, ⟨xs, L, by rw [upd_ne (ne_of a h.sa (by intro z; cases z))]; exact a, TnAll.keep (TK.upd (by rw [h.sa]; trivial)) b, by omega⟩, by omega⟩
theorem OwnAt.app {K : PySem.W.Frag} {H0 H : Hp} {ps rc r1 p : Addr} {sl : Td.Env} {n m : Nat} {xs : List V} {c u : Str} (h : OwnAt K H0 H ps rc r1 sl n m) (e1 : H r1 = some (.lst xs)) (hp : SqT K H p [.str c, .str u]) :
    OwnAt K H0 (upd H r1 (.lst (xs ++ [.ref p]))) ps rc r1 sl n (m + 1) := by
  obtain ⟨xs', L, a, b, l⟩ := h.ls
  obtain ⟨r2, r3, r4, e⟩ := h.rcd
  rw [e1] at a
  cases a
  have f := h.few
  have tk : TK H (upd H r1 (.lst (xs ++ [.ref p]))) := TK.upd (by rw [e1]; trivial)
  refine ⟨own_same h.same h.fr, h.fp, h.fr, h.nc, by rw [upd_ne (ne_of h.sa e1 (by intro z; cases z))]; exact h.sa, ⟨r2, r3, r4, by rw [upd_ne (ne_of e e1 (by intro z; cases z))]; exact e⟩, ⟨xs ++ [.ref p], L ++ [(c, u)], upd_same, ?_, ?_⟩, by omega⟩
  · rw [List.map_append]
    exact TnAll.append (TnAll.keep tk b) (TnAll.one (.tup (SqT.tk tk hp) (.cons (.str _) (.cons (.str _) .nil))))
  · rw [List.length_append]; show xs.length + 1 ≤ m + 1; omega
/-- what the law's run returns -/
def gaveV (x : RS × Bool) : V := if x.2 then .str x.1.given else .non
def spTRows (K : PySem.W.Frag) (k : Nat) : Sp := fun vs H Q _ => ∃ (v : V) (ps td rc r1 : Addr) (d : Str) (H0 : Hp) (st : RS) (kn : Td.Env) (rs : List Td.Row) (n : Nat) (S : Sc) (dep : Nat), vs = [v, .ref ps, .ref td, .str d, .ref rc] ∧ OwnAt K H0 H ps rc r1 st.slots n n ∧ H0 td = some (.dK (kv kn)) ∧
  Dp K H0 v (.tuple (rowsD rs)) ∧ okRs S dep rs ∧ S.eff = false ∧ (∀ c ∈ S.readable, (getE kn c).isSome = true) ∧ n + cnts rs ≤ 500 ∧ dep ≤ 4 ∧ 5 ≤ dep + k ∧
  ∀ H', OwnAt K H0 H' ps rc r1 (runRs (knF kn) d rs st).1.slots (n + cnts rs) (n + cnts rs) → Q (gaveV (runRs (knF kn) d rs st)) H'
section
variable {P : Program} {w : World} {K : PySem.W.Frag} {mg : Str → Option Value} {base : Heap}
theorem ok_trows1 (T : Tops w K mg) {n : Nat} (G__law_true_rows : FnOk P w K mg base CX0 n T.a__law_true_rows T.d__law_true_rows ["_law_rows_here", "_law_slots", "_law_told", "_law_default", "_law_record"] (spTRows K n)) :
    FnOk P w K mg base CX0 (n + 1) T.a__law_true_rows T.d__law_true_rows ["_law_rows_here", "_law_slots", "_law_told", "_law_default", "_law_record"] (spTRows K (n + 1)) := by
  refine T.F__law_true_rows.ok sc_law_true_rows (fun vs H Q E h => ?_) (fun cdv A outer s H vs Q E hr h => ?_)
  · obtain ⟨v, ps, td, rc, r1, d, H0, st, kn, rs, m, S, dep, rfl, _⟩ := h
    rfl
  obtain ⟨v, ps, td, rc, r1, d, H0, st, kn, rs, m, S, dep, rfl, hO, hK, hD, ok, heff, hrd, hm, hdep, hn, q⟩ := h
  obtain ⟨a, xs, rfl, hS, hl, hx⟩ := rows_at hD
  refine ⟨_, (pss_cons (ps_for PassesOwn.never rfl (pi_tup (pv 0)) (pg_name (i := 5) sc_law_true_rows.nd rfl (Or.inl rfl)) (pss_one (ps_if (PW.pt (pw_or (pt_cmpR op_eq (pe_ix ix_tup (pv 5) pe_int (fun _ _ => rfl)) pe_str (nomark _)) (pw_or1 (pt_cmpR op_eq (pe_ix ix_tup (pv 5) pe_int (fun _ _ => rfl)) pe_str (nomark _))))) (pss_cons (ps_set (i := 6) sc_law_true_rows.nd rfl (Or.inl rfl) (pe_dget (hu_of hr) (pv 4) (pe_ix ix_tup (pv 5) pe_int (fun _ _ => rfl)) (fun _ _ => rfl)))
    (pss_cons (ps_if (pt_cmpR op_notIn_seq (pe_ix ix_tup (pv 5) pe_int (fun _ _ => rfl)) (pe_lc (own := [("_law_pair", 9)]) (g := gName 9) (tt := tYes) (te := tOp (rIxT K) (tVar 9) (tC (.int 0))) rfl sc_law_true_rows.nd (pi_list (pv 6)) (blkOk_by (own := [("_law_pair", 9)]) (N := N_law_true_rows) (sc := defScope s_law_true_rows) (by decide +kernel)) (fun _ _ _ _ _ => (pg_name (i := 9) sc_law_true_rows.nd rfl (Or.inl rfl))) (fun _ _ _ _ _ => pts_nil) (fun _ _ _ _ _ => (pe_ix ix_tup (pv 9) pe_int (fun _ _ => rfl)))) (by rfl)) (pss_one (ps_expr (pe_bm PySem.F.plainAttrs_list PySem.F.slot_list_append PySem.F.type_list_append mt_append (pv 6) (pa_cons (pe_tup (pa_cons (pe_ix ix_tup (pv 5) pe_int (fun _ _ => rfl)) (pa_cons (pe_dget (hu_of hr) (pv 2) (pe_ix ix_tup (pv 5) pe_int (fun _ _ => rfl)) (fun _ _ => rfl)) pa_nil))) pa_nil)))) pss_nil)
    (pss_one (ps_dput (hu_of hr) (pv 1) (pe_ix ix_tup (pv 5) pe_int (fun _ _ => rfl)) (pe_dget (hu_of hr) (pv 2) (pe_ix ix_tup (pv 5) pe_int (fun _ _ => rfl)) (fun _ _ => rfl)) rfl)))) (pss_one (ps_if (pt_cmpR op_eq (pe_ix ix_tup (pv 5) pe_int (fun _ _ => rfl)) pe_str (nomark _)) (pss_one (ps_dput (hu_of hr) (pv 1) (pe_ix ix_tup (pv 5) pe_int (fun _ _ => rfl)) (pe_ix ix_tup (pv 5) pe_int (fun _ _ => rfl)) rfl)) (pss_one (ps_if (pt_cmpR op_eq (pe_ix ix_tup (pv 5) pe_int (fun _ _ => rfl)) pe_str (nomark _)) (pss_one (ps_ret (pe_dget2 (hu_of hr) (pv 1) (pe_ix ix_tup (pv 5) pe_int (fun _ _ => rfl)) (pv 3) ⟨rfl, rfl, rfl, rfl⟩))) (pss_one (ps_if (pt_cmpR op_eq (pe_ix ix_tup (pv 5) pe_int (fun _ _ => rfl)) pe_str (nomark _)) (pss_one (ps_expr (pe_bm PySem.F.plainAttrs_list PySem.F.slot_list_append PySem.F.type_list_append mt_append (pe_dget (hu_of hr) (pv 4) pe_str (fun _ _ => rfl)) (pa_cons (pe_dget2 (hu_of hr) (pv 1) (pe_ix ix_tup (pv 5) pe_int (fun _ _ => rfl)) (pv 3) ⟨rfl, rfl, rfl, rfl⟩) pa_nil)))) (pss_one (ps_if (pt_cmpR op_eq (pe_ix ix_tup (pv 5) pe_int (fun _ _ => rfl)) pe_str (nomark _)) (pss_one (ps_expr (pe_bm PySem.F.plainAttrs_list PySem.F.slot_list_append PySem.F.type_list_append mt_append (pe_dget (hu_of hr) (pv 4) pe_str (fun _ _ => rfl)) (pa_cons (pe_tup (pa_cons (pe_ix ix_tup (pv 5) pe_int (fun _ _ => rfl)) (pa_cons (pe_dget2 (hu_of hr) (pv 1) (pe_ix ix_tup (pv 5) pe_int (fun _ _ => rfl)) (pv 3) ⟨rfl, rfl, rfl, rfl⟩) pa_nil))) pa_nil)))) (pss_cons (ps_set (i := 7) sc_law_true_rows.nd rfl (Or.inl rfl) (pe_ifExp (pt_cmpR op_eq (pe_dget2 (hu_of hr) (pv 1) (pe_ix ix_tup (pv 5) pe_int (fun _ _ => rfl)) (pv 3) ⟨rfl, rfl, rfl, rfl⟩) (pe_ix ix_tup (pv 5) pe_int (fun _ _ => rfl)) (nomark _)) (pe_ix ix_tup (pv 5) pe_int (fun _ _ => rfl)) (pe_ix ix_tup (pv 5) pe_int (fun _ _ => rfl))))
    (pss_cons (ps_set (i := 8) sc_law_true_rows.nd rfl (Or.inl rfl) (pe_call G__law_true_rows (hr.mono (by omega)) rfl T.m__law_true_rows T.F__law_true_rows.kp T.b__law_true_rows .nil pass0 (pa_cons (pv 7) (pa_cons (pv 1) (pa_cons (pv 2) (pa_cons (pv 3) (pa_cons (pv 4) pa_nil)))))))
    (pss_one (ps_if (pt_cmpR op_notN (pv 8) pe_non (nomark _)) (pss_one (ps_ret (pv 8))) pss_nil)))))))))))))))
    (pss_one (ps_ret pe_non))), ?_⟩
  refine ⟨_, rfl, a, rfl, ⟨_, SqT.same hO.same hS⟩, for_tup (K := K) (a := a) (xs := xs) (fun i σ H' => ∃ (v5 v6 v7 v8 v9 : Option V), σ = [some (.ref a), some (.ref ps), some (.ref td), some (.str d), some (.ref rc), v5, v6, v7, v8, v9] ∧
      OwnAt K H0 H' ps rc r1 (runRs (knF kn) d (rs.take i) st).1.slots (m + cnts (rs.take i)) (m + cnts (rs.take i)) ∧ (runRs (knF kn) d (rs.take i) st).2 = false)
    ⟨none, none, none, none, none, rfl, by simpa [runRs, cnts] using hO, by simp [runRs]⟩ (fun i σ H' _ ⟨_, _, _, _, _, _, h, _⟩ => SqT.same h.same hS) ?_ ?_⟩
  · rintro i x σ H1 hi ⟨v5, v6, v7, v8, v9, rfl, hO1, hf⟩
    obtain ⟨r, hr2, hDr⟩ := hx i x hi
    have okr := okRs_get ok hr2
    have hcn : Td.cnt r + cnts (rs.take i) ≤ cnts rs := cnts_get hr2
    have nxt := runRs_next (kn := knF kn) (d := d) hr2 hf
    have stop := runRs_stop (kn := knF kn) (d := d) hr2 hf
    have ct : cnts (rs.take (i + 1)) = cnts (rs.take i) + Td.cnt r := cnts_take hr2
    generalize (runRs (knF kn) d (rs.take i) st).1 = st1 at hO1 nxt stop
    generalize hci : cnts (rs.take i) = ci at hO1 ct hcn
    have hsl := hO1.few
    cases r with
    | say s => unfold okR at okr; rw [heff] at okr; exact nomatch okr.1
    | wr c s => unfold okR at okr; rw [heff] at okr; exact nomatch okr.1
    | rd pk c s =>
      unfold okR at okr
      rw [heff] at okr
      cases pk with
      | true => exact nomatch okr.1 rfl
      | false =>
        obtain ⟨ar, rfl, hSr0⟩ := rd_at hDr
        have hSr := SqT.same hO1.same hSr0
        refine ⟨_, rfl, ar, _, 0, _, rfl, rfl, hSr, rfl, rfl, _, rfl, iteT ?_⟩
        obtain ⟨r2, r3, r4, er⟩ := hO1.rcd
        obtain ⟨ys, L, y1, y2, y3⟩ := hO1.ls
        have g1 : DGet H1 rc (.str "read") (some (.ref r1)) := by
          have h := DGet.k (k := .inr "read") er
          rw [recK_read] at h
          exact h
        refine ⟨_, rfl, _, rfl, ar, _, 0, _, rfl, rfl, hSr, rfl, rc, _, rfl, g1, ?_⟩
        refine ⟨_, rfl, ar, _, 1, _, rfl, rfl, hSr, rfl, ?_⟩
        refine ⟨_, rfl, r1, rfl, ⟨_, SqL.of y1⟩, fun D hD => lc_list (K := K) (a := r1) (xs := ys) (fun i H' => ∃ zs : List Str, Same H1 H' ∧ H' D = some (.lst (zs.map V.str)) ∧ zs.length = i)
          ⟨[], Same.new hD _, upd_same, rfl⟩ (fun i H' _ ⟨_, hs, _⟩ => SqL.same hs (SqL.of y1)) ?_ ?_⟩
        · rintro j z H' hj ⟨zs, hs, hb, hzl⟩
          have hjl : j < ys.length := (List.getElem?_eq_some_iff.mp hj).1
          obtain ⟨dd, k1, k2⟩ := TnAll.get y2 hj
          rw [List.getElem?_map] at k1
          obtain ⟨pq, _, rfl⟩ := Option.map_eq_some_iff.mp k1
          obtain ⟨b, us, rfl, hS2, hT2⟩ := Tn.tup_inv k2
          obtain ⟨c1, c2⟩ : ∃ c1 c2, us = [V.str c1, c2] := by
            cases hT2 with
            | cons t1 t2 =>
              cases t1
              cases t2 with
              | cons t3 t4 => cases t4; exact ⟨_, _, rfl⟩
          obtain ⟨c2, rfl⟩ := c2
          refine ⟨rfl, tYes_of ?_⟩
          refine ⟨_, rfl, b, _, 0, _, rfl, rfl, SqT.same hs hS2, rfl, _, hb, small1000 (by rw [List.length_map]; omega), zs ++ [c1], fun c o e => ?_, by rw [upd_same, List.map_append]; rfl, by rw [List.length_append, hzl]; rfl⟩
          rw [upd_ne (ne_of_none e hD)]
          exact hs c o e
        · rintro H2 ⟨zs, hs, hb, hzl⟩
          have hO2 := hO1.go hs
          have hSr2 := SqT.same hs hSr
          refine ⟨D, _, rfl, .inl (SqL.of hb), rfl, L2.flat_strs _, _, rfl, ?_⟩
          have eR : runR (knF kn) d (.rd false c s) st1 = ({ st1 with slots := putE st1.slots s (knF kn c), noted := sdE st1.noted c (knF kn c) }, false) := by simp [runR]
          have hkn : ∀ {X : Hp}, Same H0 X → DGet X td (.str c) (some (.str (knF kn c))) := fun sx => get_known (sx _ _ hK) (hrd c okr.2.1)
          have fin : ∀ (H3 : Hp), OwnAt K H0 H3 ps rc r1 st1.slots (m + ci) (m + ci + 1) → sDPut (tVar 1) (tOp (rIxT K) (tVar 5) (tC (.int 2))) (tDGet (tVar 2) (tOp (rIxT K) (tVar 5) (tC (.int 1))))
              { nx := fun σ H' => ∃ (v5 v6 v7 v8 v9 : Option V), σ = [some (.ref a), some (.ref ps), some (.ref td), some (.str d), some (.ref rc), v5, v6, v7, v8, v9] ∧
                  OwnAt K H0 H' ps rc r1 (runRs (knF kn) d (rs.take (i + 1)) st).1.slots (m + cnts (rs.take (i + 1))) (m + cnts (rs.take (i + 1))) ∧ (runRs (knF kn) d (rs.take (i + 1)) st).2 = false, rt := Q, bk := fun _ _ => True, ct := fun _ _ => True }
              [some (.ref a), some (.ref ps), some (.ref td), some (.str d), some (.ref rc), some (.ref ar), some (.ref r1), v7, v8, v9] H3 := fun H3 hO3 => by
            have hSr3 := SqT.same hO3.same hSr0
            refine ⟨_, rfl, _, rfl, ar, _, 1, _, rfl, rfl, hSr3, rfl, td, _, rfl, hkn hO3.same, _, rfl, _, rfl, ar, _, 2, _, rfl, rfl, hSr3, rfl, ps, _, rfl, put_kv hO3.sa (small1000 (by omega)), ?_⟩
            refine ⟨_, _, _, _, _, rfl, ?_, by rw [nxt, eR]⟩
            rw [nxt, eR, ct]
            exact (hO3.put s (knF kn c)).mono (by have := cnt_pos (.rd false c s); omega) (by have := cnt_pos (.rd false c s); omega)
          have hO2' := hO2.mono (n' := m + ci) (m' := m + ci + 1) (Nat.le_refl _) (Nat.le_succ _)
          cases hb2 : inV (.str c) (zs.map V.str) with
          | true => exact if_false_of rfl (fin _ hO2')
          | false =>
            refine if_true_of rfl ?_
            have y1' := hs _ _ y1
            refine ⟨_, rfl, .inl ⟨rfl, _, SqL.of y1'⟩, _, rfl, ar, _, 1, _, rfl, rfl, hSr2, rfl, _, rfl, _, rfl, ar, _, 1, _, rfl, rfl, hSr2, rfl, td, _, rfl, hkn hO2.same, by show 2 ≤ sizeLine; decide, fun p hp => ?_⟩
            have sp : Same H2 (upd H2 p (.tup [.str c, .str (knF kn c)])) := Same.new hp _
            refine ⟨r1, ys, _, rfl, rfl, sp _ _ y1', small1000 (by omega), ?_⟩
            exact fin _ ((hO2.go sp).app (sp _ _ y1') (SqT.of upd_same))
    | put s u =>
      obtain ⟨ar, rfl, hSr0⟩ := put_at hDr
      have hSr := SqT.same hO1.same hSr0
      refine ⟨_, rfl, ar, _, 0, _, rfl, rfl, hSr, rfl, rfl, _, rfl, iteF ?_⟩
      refine ⟨_, rfl, ar, _, 0, _, rfl, rfl, hSr, rfl, rfl, _, rfl, if_false_of (by decide +kernel) ?_⟩
      refine ⟨_, rfl, ar, _, 0, _, rfl, rfl, hSr, rfl, rfl, _, rfl, if_true_of (by decide +kernel) ?_⟩
      refine ⟨_, rfl, ar, _, 2, _, rfl, rfl, hSr, rfl, _, rfl, _, rfl, ar, _, 1, _, rfl, rfl, hSr, rfl, ps, _, rfl, put_kv hO1.sa (small1000 (by omega)), ?_⟩
      have hO2 := hO1.put s u
      have eR : runR (knF kn) d (.put s u) st1 = ({ st1 with slots := putE st1.slots s u }, false) := by simp only [runR]
      refine ⟨_, _, _, _, _, rfl, ?_, by rw [nxt, eR]⟩
      rw [nxt, eR, ct]
      exact hO2.mono (by have := cnt_pos (.put s u); omega) (by omega)
    | give s =>
      obtain ⟨ar, rfl, hSr0⟩ := give_at hDr
      have hSr := SqT.same hO1.same hSr0
      refine ⟨_, rfl, ar, _, 0, _, rfl, rfl, hSr, rfl, rfl, _, rfl, iteF ?_⟩
      refine ⟨_, rfl, ar, _, 0, _, rfl, rfl, hSr, rfl, rfl, _, rfl, if_false_of (by decide +kernel) ?_⟩
      refine ⟨_, rfl, ar, _, 0, _, rfl, rfl, hSr, rfl, rfl, _, rfl, if_false_of (by decide +kernel) ?_⟩
      refine ⟨_, rfl, ar, _, 0, _, rfl, rfl, hSr, rfl, rfl, _, rfl, if_true_of (by decide +kernel) ?_⟩
      refine ⟨_, rfl, ps, rfl, .inl ⟨_, .inl hO1.sa⟩, _, rfl, ar, _, 1, _, rfl, rfl, hSr, rfl, _, rfl, _, DGet.k (k := .inr s) hO1.sa, ?_⟩
      have eR : runR (knF kn) d (.give s) st1 = ({ st1 with given := st1.word d s }, true) := by simp only [runR]
      have st2 := stop (by rw [eR])
      have e2 : (valV (kv st1.slots) (.inr s : Key)).getD (.str d) = .str (st1.word d s) := by
        rw [Td.kv_get]
        unfold RS.word
        cases getE st1.slots s <;> rfl
      have h := q H1 (by rw [st2, eR]; exact hO1.mono (by omega) (by omega))
      rw [st2, eR] at h
      show Q ((valV (kv st1.slots) (.inr s : Key)).getD (.str d)) H1
      rw [e2]
      exact h
    | ite sl u y n' =>
      obtain ⟨ar, vy, vn, rfl, hSr0, hyD, hnD⟩ := ite_at hDr
      have hSr := SqT.same hO1.same hSr0
      have ecn : Td.cnt (Td.Row.ite sl u y n') = 1 + cnts y + cnts n' := by unfold Td.cnt; rfl
      unfold okR at okr
      refine ⟨_, rfl, ar, _, 0, _, rfl, rfl, hSr, rfl, rfl, _, rfl, iteF ?_⟩
      refine ⟨_, rfl, ar, _, 0, _, rfl, rfl, hSr, rfl, rfl, _, rfl, if_false_of (by decide +kernel) ?_⟩
      refine ⟨_, rfl, ar, _, 0, _, rfl, rfl, hSr, rfl, rfl, _, rfl, if_false_of (by decide +kernel) ?_⟩
      refine ⟨_, rfl, ar, _, 0, _, rfl, rfl, hSr, rfl, rfl, _, rfl, if_false_of (by decide +kernel) ?_⟩
      refine ⟨_, rfl, ar, _, 0, _, rfl, rfl, hSr, rfl, rfl, _, rfl, if_false_of (by decide +kernel) ?_⟩
      refine ⟨_, rfl, ar, _, 0, _, rfl, rfl, hSr, rfl, rfl, _, rfl, if_false_of (by decide +kernel) ?_⟩
      refine ⟨_, rfl, ps, rfl, .inl ⟨_, .inl hO1.sa⟩, _, rfl, ar, _, 1, _, rfl, rfl, hSr, rfl, _, rfl, _, DGet.k (k := .inr sl) hO1.sa, ?_⟩
      have e2 : (valV (kv st1.slots) (.inr sl : Key)).getD (.str d) = .str (st1.word d sl) := by
        rw [Td.kv_get]
        unfold RS.word
        cases getE st1.slots sl <;> rfl
      dsimp only
      rw [e2]
      refine ⟨_, rfl, ar, _, 2, _, rfl, rfl, hSr, rfl, rfl, _, rfl, ?_⟩
      by_cases hw : st1.word d sl = u
      · refine if_true_of (by rw [hw]; exact decide_eq_true rfl) ?_
        refine ⟨_, rfl, ar, _, 3, _, rfl, rfl, hSr, rfl, ?_⟩
        refine ⟨_, rfl, _, rfl, _, rfl, _, rfl, _, rfl, vy, ps, td, rc, r1, d, H0, st1, kn, y, m + ci, S, dep + 1, rfl, hO1, hK, hyD, okr.2.2.2.1, heff, hrd, by omega, by omega, by omega, fun H2 hO2 => ?_⟩
        have eR : runR (knF kn) d (.ite sl u y n') st1 = runRs (knF kn) d y st1 := by simp only [runR, if_pos hw]
        cases hb : (runRs (knF kn) d y st1).2 with
        | true =>
          have st2 := stop (by rw [eR]; exact hb)
          have h := q H2 (by rw [st2, eR]; exact hO2.mono (by omega) (by omega))
          rw [st2, eR] at h
          unfold gaveV at h ⊢
          rw [hb] at h ⊢
          exact ⟨_, rfl, rfl, _, rfl, if_true_of rfl ⟨_, rfl, h⟩⟩
        | false =>
          unfold gaveV
          rw [hb]
          refine ⟨_, rfl, rfl, _, rfl, if_false_of rfl ⟨_, _, _, _, _, rfl, ?_, by rw [nxt, eR]; exact hb⟩⟩
          rw [nxt, eR, ct]
          exact hO2.mono (by omega) (by omega)
      · refine if_false_of (decide_eq_false (fun h => hw (by injection h))) ?_
        refine ⟨_, rfl, ar, _, 4, _, rfl, rfl, hSr, rfl, ?_⟩
        refine ⟨_, rfl, _, rfl, _, rfl, _, rfl, _, rfl, vn, ps, td, rc, r1, d, H0, st1, kn, n', m + ci, S, dep + 1, rfl, hO1, hK, hnD, okr.2.2.2.2, heff, hrd, by omega, by omega, by omega, fun H2 hO2 => ?_⟩
        have eR : runR (knF kn) d (.ite sl u y n') st1 = runRs (knF kn) d n' st1 := by simp only [runR, if_neg hw]
        cases hb : (runRs (knF kn) d n' st1).2 with
        | true =>
          have st2 := stop (by rw [eR]; exact hb)
          have h := q H2 (by rw [st2, eR]; exact hO2.mono (by omega) (by omega))
          rw [st2, eR] at h
          unfold gaveV at h ⊢
          rw [hb] at h ⊢
          exact ⟨_, rfl, rfl, _, rfl, if_true_of rfl ⟨_, rfl, h⟩⟩
        | false =>
          unfold gaveV
          rw [hb]
          refine ⟨_, rfl, rfl, _, rfl, if_false_of rfl ⟨_, _, _, _, _, rfl, ?_, by rw [nxt, eR]; exact hb⟩⟩
          rw [nxt, eR, ct]
          exact hO2.mono (by omega) (by omega)
  · rintro σ H1 ⟨v5, v6, v7, v8, v9, rfl, hO1, hf⟩
    rw [hl, List.take_length] at hO1 hf
    have h := q _ hO1
    unfold gaveV at h
    rw [hf] at h
    exact h
theorem ok_trows (T : Tops w K mg) : ∀ k, FnOk P w K mg base CX0 k T.a__law_true_rows T.d__law_true_rows ["_law_rows_here", "_law_slots", "_law_told", "_law_default", "_law_record"] (spTRows K k)
  | 0 => by
    have no : ∀ vs H Q E, ¬ spTRows K 0 vs H Q E := fun vs H Q E h => by
      obtain ⟨_, _, _, _, _, _, _, _, _, _, _, _, dep, _, _, _, _, _, _, _, _, h1, h2, _⟩ := h
      omega
    exact ⟨fun vs H Q E h => absurd h (no vs H Q E), fun A outer s H args us vs Q E _ _ _ _ h => absurd h (no vs H Q E)⟩
  | k + 1 => ok_trows1 T (ok_trows T k)
end
end K07
namespace K07
open PySem PySem.Spec PyProof.Rows L2 Td
theorem parts_at {K : PySem.W.Frag} {H : Hp} {v : V} {p : PP} (h : Tn K H v p.data) : ∃ (pa aw as : Addr) (vd ve : V), v = .ref pa ∧ SqT K H pa [.ref aw, .ref as, vd, ve] ∧ SqT K H aw (p.words.map V.str) ∧ SqT K H as (p.sources.map V.str) ∧ Tn K H vd (pairsD p.derived) ∧ Tn K H ve (pairsD p.effects) := by
  obtain ⟨pa, xs, rfl, hS, hT⟩ := Tn.tup_inv h
  cases hT with
  | cons c1 t1 =>
    cases t1 with
    | cons c2 t2 =>
      cases t2 with
      | cons c3 t3 =>
        cases t3 with
        | cons c4 t4 =>
          cases t4
          obtain ⟨aw, ws, rfl, hw, hw2⟩ := Tn.tup_inv c1
          obtain ⟨as, ss, rfl, hs, hs2⟩ := Tn.tup_inv c2
          have e1 := hw2.strs_inv
          have e2 := hs2.strs_inv
          subst e1 e2
          exact ⟨pa, aw, as, _, _, rfl, hS, hw, hs, c3, c4⟩
mutual
theorem not_gave_R (kn : Str → Str) (d : Str) : ∀ (r : Td.Row) (st : RS), (runR kn d r st).2 = false → (runR kn d r st).1.given = st.given
  | .rd pk a s, st, _ => by simp only [runR]
  | .put s u, st, _ => by simp only [runR]
  | .give s, st, h => by simp [runR] at h
  | .say s, st, _ => by simp only [runR]
  | .wr a s, st, _ => by simp only [runR]
  | .ite s u y n, st, h => by
    simp only [runR] at h ⊢
    split
    · rename_i e
      rw [if_pos e] at h
      exact not_gave_Rs kn d y st h
    · rename_i e
      rw [if_neg e] at h
      exact not_gave_Rs kn d n st h
theorem not_gave_Rs (kn : Str → Str) (d : Str) : ∀ (rs : List Td.Row) (st : RS), (runRs kn d rs st).2 = false → (runRs kn d rs st).1.given = st.given
  | [], st, _ => by simp only [runRs]
  | r :: rs, st, h => by
    by_cases hb : (runR kn d r st).2 = true
    · rw [runRs_yes _ hb] at h; cases h
    · rw [runRs_no _ hb] at h ⊢
      rw [not_gave_Rs kn d rs _ h]
      exact not_gave_R kn d r st (by simpa using hb)
end
theorem zip_put {ss ws : List Str} {i : Nat} {a b : Str} (nd : ss.Nodup) (ha : ss[i]? = some a) (hb : ws[i]? = some b) : putE ((ss.zip ws).take i) a b = (ss.zip ws).take (i + 1) := by
  have hz : (ss.zip ws)[i]? = some (a, b) := by rw [List.getElem?_zip_eq_some]; exact ⟨ha, hb⟩
  rw [take_more hz]
  unfold putE
  rw [if_neg]
  intro h
  obtain ⟨p, hp, he⟩ := List.any_eq_true.mp h
  have he := of_decide_eq_true he
  obtain ⟨j, hj⟩ := List.getElem?_of_mem hp
  rw [List.getElem?_take] at hj
  split at hj
  · rename_i hji
    obtain ⟨h1, _⟩ := List.getElem?_zip_eq_some.mp hj
    rw [he] at h1
    have hi : i < ss.length := (List.getElem?_eq_some_iff.mp ha).1
    exact absurd ((List.getElem?_inj hi nd).mp (ha.trans h1.symm)) (by omega)
  · cases hj
/-- a list or a tuple -/
def SqA (K : PySem.W.Frag) (H : Hp) (a : Addr) (xs : List V) : Prop := SqL K H a xs ∨ SqT K H a xs
theorem SqA.same {K : PySem.W.Frag} {H H' : Hp} {a : Addr} {xs : List V} (s : Same H H') (h : SqA K H a xs) : SqA K H' a xs := h.elim (fun h => .inl (SqL.same s h)) fun h => .inr (SqT.same s h)
theorem ixA {K : PySem.W.Frag} {H : Hp} {a : Addr} {xs : List V} {i : Nat} {v : V} {Q : VK} (h : SqA K H a xs) (e : xs[i]? = some v) (q : Q v H) : rIx K (.ref a) (.int (i : Nat)) H Q := by
  rcases h with h | h
  · exact .inl ⟨a, xs, _, v, rfl, rfl, h, atI_nat e, q⟩
  · exact .inr (.inl ⟨a, xs, _, v, rfl, rfl, h, atI_nat e, q⟩)
def spLawTrue (K : PySem.W.Frag) : Sp := fun vs H Q _ => ∃ (v : V) (wa : Addr) (p : PP) (m : Nat) (ws : List Str), vs = [v, .ref wa] ∧ Tn K H v p.data ∧ p.Ok m ∧ m ≤ 16 ∧ SqA K H wa (ws.map V.str) ∧ ws.length = p.sources.length ∧
  ∀ (td : Addr) H', Same H H' → H' td = some (.dK (kv (known0 p ws))) → Q (.ref td) H'
section
variable {P : Program} {w : World} {K : PySem.W.Frag} {mg : Str → Option Value} {base : Heap}
theorem ok_law_true (T : Tops w K mg) (G__law_true_rows : FnOk P w K mg base CX0 4 T.a__law_true_rows T.d__law_true_rows ["_law_rows_here", "_law_slots", "_law_told", "_law_default", "_law_record"] (spTRows K 4)) :
    FnOk P w K mg base CX0 5 T.a__law_true T.d__law_true ["_law_parts_here", "_law_words_here"] (spLawTrue K) := by
  refine T.F__law_true.ok sc_law_true (fun vs H Q E h => ?_) (fun cdv A outer s H vs Q E hr h => ?_)
  · obtain ⟨v, wa, p, m, ws, rfl, _⟩ := h
    rfl
  obtain ⟨v, wa, p, m, ws, rfl, hD, ok, hm, hW, hwl, q⟩ := h
  obtain ⟨pa, aw, as, vd, ve, rfl, hP, h1, h2, h3, h4⟩ := parts_at hD
  obtain ⟨ad, xs, rfl, hA, hxl, hx⟩ := pairs_at h3
  have s4 := ok.s4
  have d6 := ok.d6
  refine ⟨_, (pss_cons (ps_set (i := 2) sc_law_true.nd rfl (Or.inl rfl) pe_dnewK)
    (pss_cons (ps_for PassesOwn.never rfl (pi_range1 rfl T.z_range (pa_cons (pe_callB call_len rfl T.z_len PySem.boot_len (pa_cons (pe_ix ix_tup (pv 0) pe_int (fun _ _ => rfl)) pa_nil)) pa_nil)) (pg_name (i := 3) sc_law_true.nd rfl (Or.inl rfl)) (pss_one (ps_dput (hu_of hr) (pv 2) (pe_ix ix_tup (pe_ix ix_tup (pv 0) pe_int (fun _ _ => rfl)) (pv 3) (fun _ _ => rfl)) (pe_ix ix_seq (pv 1) (pv 3) (fun _ _ => rfl)) rfl)))
    (pss_cons (ps_for PassesOwn.never rfl (pi_tup (pe_ix ix_tup (pv 0) pe_int (fun _ _ => rfl))) (pg_name (i := 4) sc_law_true.nd rfl (Or.inl rfl)) (pss_cons (ps_set (i := 5) sc_law_true.nd rfl (Or.inl rfl) (pe_disp (pps_cons pe_str (pe_lst pa_nil) (pps_cons pe_str (pe_lst pa_nil) (pps_cons pe_str (pe_lst pa_nil) (pps_cons pe_str (pe_lst pa_nil) pps_nil)))) (by rfl) (by rfl) (fun z => by cases z) (by decide)))
    (pss_cons (ps_set (i := 6) sc_law_true.nd rfl (Or.inl rfl) (pe_call G__law_true_rows (hr.mono (by omega)) rfl T.m__law_true_rows T.F__law_true_rows.kp T.b__law_true_rows .nil pass0 (pa_cons (pe_ix ix_tup (pv 4) pe_int (fun _ _ => rfl)) (pa_cons pe_dnewK (pa_cons (pv 2) (pa_cons (pe_ix ix_tup (pe_ix ix_tup (pv 0) pe_int (fun _ _ => rfl)) pe_int (fun _ _ => rfl)) (pa_cons (pv 5) pa_nil)))))))
    (pss_one (ps_dput (hu_of hr) (pv 2) (pe_ix ix_tup (pv 4) pe_int (fun _ _ => rfl)) (pe_ifExp (pt_cmpR op_isN (pv 6) pe_non (nomark _)) (pe_ix ix_tup (pe_ix ix_tup (pv 0) pe_int (fun _ _ => rfl)) pe_int (fun _ _ => rfl)) (pv 6)) rfl)))))
    (pss_one (ps_ret (pv 2)))))), ?_⟩
  refine fun td htd => ?_
  have s1 : Same H (upd H td (.dK [])) := Same.new htd _
  have t1 : upd H td (.dK []) td = some (.dK (kv [])) := upd_same
  dsimp only
  generalize upd H td (.dK []) = H1 at s1 t1
  refine ⟨_, rfl, pa, _, 1, _, rfl, rfl, SqT.same s1 hP, rfl, .ref as, _, rfl, .inr ⟨_, SqT.same s1 h2, rfl⟩, (((p.sources.map V.str).length : Nat) : Int), rfl, by rw [List.length_map]; omega, by rw [List.length_map]; omega, for_range (lo := 0) (n := (((p.sources.map V.str).length : Nat) : Int).toNat)
    (fun i σ H' => ∃ (v3 : Option V), σ = [some (.ref pa), some (.ref wa), some (.ref td), v3, none, none, none] ∧ Same H H' ∧ H' td = some (.dK (kv ((p.sources.zip ws).take i)))) ⟨none, rfl, s1, by simpa using t1⟩ ?_ ?_⟩
  · rintro i σ H2 hi ⟨v3, rfl, hs, hK⟩
    rw [List.length_map, Int.toNat_natCast] at hi
    have ha : p.sources[i]? = some p.sources[i] := List.getElem?_eq_getElem hi
    have hb : ws[i]? = some ws[i] := List.getElem?_eq_getElem (by omega)
    rw [show (0 : Int) + (i : Nat) = (i : Nat) by omega]
    refine ⟨_, rfl, _, rfl, ixA (hW.same hs) (v := .str ws[i]) (by rw [List.getElem?_map, hb]; rfl) ?_⟩
    refine ⟨_, rfl, _, rfl, pa, _, 1, _, rfl, rfl, SqT.same hs hP, rfl, _, rfl, as, _, (i : Nat), .str p.sources[i], rfl, rfl, SqT.same hs h2, atI_nat (by rw [List.getElem?_map, ha]; rfl), td, _, rfl, put_kv hK (small1000 (by rw [List.length_take, List.length_zip]; omega)), ?_⟩
    refine ⟨_, rfl, own_same hs htd, ?_⟩
    rw [upd_same, zip_put (cellsNodup ok) ha hb]
  · rintro σ H2 ⟨v3, rfl, hs, hK⟩
    rw [List.length_map, Int.toNat_natCast] at hK
    rw [List.take_of_length_le (by rw [List.length_zip]; omega)] at hK
    refine ⟨_, rfl, pa, _, 2, _, rfl, rfl, SqT.same hs hP, rfl, ad, rfl, ⟨_, SqT.same hs hA⟩, for_tup (K := K) (a := ad) (xs := xs) (fun i σ H' => ∃ (v3 v4 v5 v6 : Option V), σ = [some (.ref pa), some (.ref wa), some (.ref td), v3, v4, v5, v6] ∧ Same H H' ∧ H' td = some (.dK (kv (tell (d0 p) (p.sources.zip ws) (p.derived.take i)))))
      ⟨v3, none, none, none, rfl, hs, hK⟩ (fun i σ H' _ ⟨_, _, _, _, _, hs, _⟩ => SqT.same hs hA) ?_ ?_⟩
    · rintro i x σ H3 hi ⟨v3, v4, v5, v6, rfl, hs3, hK3⟩
      obtain ⟨qq, b, vr, hq, rfl, hB, hT⟩ := hx i x hi
      obtain ⟨okd, hcd⟩ := okDer_get ok.der hq
      refine fun rc hrc => ?_
      have r0 : Same H3 (upd H3 rc (.dK [])) := Same.new hrc _
      have r1 : upd H3 rc (.dK []) rc = some (.dK []) := upd_same
      dsimp only
      generalize upd H3 rc (.dK []) = H4 at r0 r1
      refine ⟨by show 0 ≤ sizeLine; decide, fun l1 hl1 => ⟨by show 0 ≤ sizeLine; decide, fun l2 hl2 => ⟨by show 0 ≤ sizeLine; decide, fun l3 hl3 => ⟨by show 0 ≤ sizeLine; decide, fun l4 hl4 => ?_⟩⟩⟩⟩
      have q1 : Same H4 (upd H4 l1 (.lst [])) := Same.new hl1 _
      have q2 := q1.trans (Same.new hl2 (.lst []))
      have q3 := q2.trans (Same.new hl3 (.lst []))
      have q4 := q3.trans (Same.new hl4 (.lst []))
      have e1 : upd (upd (upd (upd H4 l1 (.lst [])) l2 (.lst [])) l3 (.lst [])) l4 (.lst []) l1 = some (.lst []) := Same.new hl4 _ _ _ (Same.new hl3 _ _ _ (Same.new hl2 _ _ _ upd_same))
      have n1 : H3 l1 = none := free_of r0 hl1
      refine ⟨q4 _ _ r1, recK l1 l2 l3 l4, rfl, by show 4 ≤ 15; decide, ?_⟩
      rw [recK_merge]
      have q5 : Same H3 (upd (upd (upd (upd (upd H4 l1 (.lst [])) l2 (.lst [])) l3 (.lst [])) l4 (.lst [])) rc (.dK (recK l1 l2 l3 l4))) := own_same (r0.trans q4) hrc
      have e2 : upd (upd (upd (upd (upd H4 l1 (.lst [])) l2 (.lst [])) l3 (.lst [])) l4 (.lst [])) rc (.dK (recK l1 l2 l3 l4)) l1 = some (.lst []) := by
        rw [upd_ne (ne_of e1 (q4 _ _ r1) (by intro z; cases z))]; exact e1
      have e3 : upd (upd (upd (upd (upd H4 l1 (.lst [])) l2 (.lst [])) l3 (.lst [])) l4 (.lst [])) rc (.dK (recK l1 l2 l3 l4)) rc = some (.dK (recK l1 l2 l3 l4)) := upd_same
      generalize upd (upd (upd (upd (upd H4 l1 (.lst [])) l2 (.lst [])) l3 (.lst [])) l4 (.lst [])) rc (.dK (recK l1 l2 l3 l4)) = H5 at q5 e2 e3
      have s35 := hs3.trans q5
      refine ⟨_, rfl, b, _, 1, _, rfl, rfl, SqT.same s35 hB, rfl, fun ps hps => ?_⟩
      have q6 : Same H5 (upd H5 ps (.dK [])) := Same.new hps _
      have s36 := s35.trans q6
      have e6 : upd H5 ps (.dK []) ps = some (.dK (kv [])) := upd_same
      have nc : rc ≠ ps := ne_of_none e3 hps
      have n2 : H3 ps = none := free_of q5 hps
      generalize upd H5 ps (.dK []) = H6 at q6 s36 e6
      refine ⟨_, rfl, _, rfl, pa, _, 0, _, rfl, rfl, SqT.same s36 hP, rfl, aw, _, 0, _, rfl, rfl, SqT.same s36 h1, d0_at ok, _, rfl, vr, ps, td, rc, l1, d0 p, H3, rs0 (d0 p), _, qq.2, 0, _, 1, rfl,
        ⟨q5.trans q6, n2, n1, nc, e6, ⟨l2, l3, l4, q6 _ _ e3⟩, ⟨[], [], q6 _ _ e2, .nil, Nat.le_refl _⟩, Nat.le_refl _⟩, hK3, Dp.same hs3 hT.dp, okd, rfl, fun c hc => ?_, by omega, by omega, by omega, fun H7 hO => ?_⟩
      · refine tell_has _ _ _ _ ?_
        rcases List.mem_append.mp hc with h | h
        · exact .inl (zip_has h hwl.symm)
        · exact .inr h
      · have s37 := hs3.trans hO.same
        have hK7 := hO.same _ _ hK3
        have hlen := tell_len (d0 p) (p.derived.take i) (p.sources.zip ws)
        have htk : (p.derived.take i).length ≤ 6 := by rw [List.length_take]; omega
        have hzl : (p.sources.zip ws).length ≤ 4 := by rw [List.length_zip]; omega
        have ng := not_gave_Rs (knF (tell (d0 p) (p.sources.zip ws) (p.derived.take i))) (d0 p) qq.2 (rs0 (d0 p))
        have fin : tell (d0 p) (p.sources.zip ws) (p.derived.take (i + 1)) = putE (tell (d0 p) (p.sources.zip ws) (p.derived.take i)) qq.1 (runRs (knF (tell (d0 p) (p.sources.zip ws) (p.derived.take i))) (d0 p) qq.2 (rs0 (d0 p))).1.given := by
          rw [take_more hq, tell_snoc]
        unfold gaveV
        cases hg : (runRs (knF (tell (d0 p) (p.sources.zip ws) (p.derived.take i))) (d0 p) qq.2 (rs0 (d0 p))).2 with
        | true =>
          refine ⟨_, rfl, rfl, _, rfl, if_false_of rfl ?_⟩
          refine ⟨_, rfl, _, rfl, _, rfl, b, _, 0, _, rfl, rfl, SqT.same s37 hB, rfl, td, _, rfl, put_kv hK7 (small1000 (by omega)), _, _, _, _, rfl, own_same s37 htd, ?_⟩
          rw [upd_same, fin]
        | false =>
          refine ⟨_, rfl, rfl, _, rfl, if_true_of rfl ?_⟩
          refine ⟨_, rfl, pa, _, 0, _, rfl, rfl, SqT.same s37 hP, rfl, aw, _, 0, _, rfl, rfl, SqT.same s37 h1, d0_at ok, ?_⟩
          refine ⟨_, rfl, _, rfl, b, _, 0, _, rfl, rfl, SqT.same s37 hB, rfl, td, _, rfl, put_kv hK7 (small1000 (by omega)), _, _, _, _, rfl, own_same s37 htd, ?_⟩
          rw [upd_same, fin, ng hg]
          rfl
    · rintro σ H3 ⟨v3, v4, v5, v6, rfl, hs3, hK3⟩
      rw [hxl, List.take_length] at hK3
      exact ⟨_, rfl, q td H3 hs3 hK3⟩
end
end K07
namespace K07
open PySem PySem.Spec PyProof.Rows L2 Td
theorem at_word {ws : List Str} {r : Int} (r0 : 0 ≤ r) (h : r.toNat < ws.length) : atI (ws.map V.str) r = some (.str ws[r.toNat]) := by
  have e : atI (ws.map V.str) ((r.toNat : Nat) : Int) = some (.str ws[r.toNat]) := atI_nat (by simp [h])
  rwa [Int.toNat_of_nonneg r0] at e
def spLawWords (K : PySem.W.Frag) : Sp := fun vs H Q _ => ∃ (st sc : Addr) (v : V) (p : PP) (m : Nat), vs = [.ref st, v] ∧ StOk H st sc ∧ Tn K H v p.data ∧ p.Ok m ∧
  ∀ (wa : Addr) (ws : List Str) H', Keep st H H' → StOk H' st sc → SqT K H' wa (ws.map V.str) → ws.length = p.sources.length → (∀ z ∈ ws, z ∈ p.words) → Q (.ref wa) H'
section
variable {P : Program} {w : World} {K : PySem.W.Frag} {mg : Str → Option Value} {base : Heap}
theorem ok_law_words (T : Tops w K mg) (G__law_draw : FnOk P w K mg base CX0 1 T.a__law_draw T.d__law_draw ["_law_state_here", "_law_many_here"] spDraw) :
    FnOk P w K mg base CX0 2 T.a__law_words T.d__law_words ["_law_state_here", "_law_parts_here"] (spLawWords K) := by
  refine T.F__law_words.ok sc_law_words (fun vs H Q E h => ?_) (fun cdv A outer s H vs Q E hr h => ?_)
  · obtain ⟨st, sc, v, p, m, rfl, _⟩ := h
    rfl
  obtain ⟨st, sc, v, p, m, rfl, hst, hD, ok, q⟩ := h
  obtain ⟨pa, aw, as, vd, ve, rfl, hP, h1, h2, h3, h4⟩ := parts_at hD
  have s4 := ok.s4
  have w2 := ok.w2
  have w4 := ok.w4
  refine ⟨_, (pss_one (ps_ret (pe_callTy call_tuple_of rfl T.z_tuple (by decide +kernel) (pa_cons (pe_lc (own := [("_law_source", 2)]) (g := gName 2) (tt := tYes) (te := tOp (rIxT K) (tOp (rIxT K) (tVar 1) (tC (.int 0))) (tCall spDraw [] E0 (tCons (tVar 0) (tCons (tCB (fun xs H Q => ∃ x n, xs = [x] ∧ LenV K x H n ∧ Q (V.int (n : Nat)) H) (tCons (tOp (rIxT K) (tVar 1) (tC (.int 0))) tNil)) tNil)))) rfl sc_law_words.nd (pi_tup (pe_ix ix_tup (pv 1) pe_int (fun _ _ => rfl))) (blkOk_by (own := [("_law_source", 2)]) (N := N_law_words) (sc := defScope s_law_words) (by decide +kernel)) (fun _ _ _ _ _ => (pg_name (i := 2) sc_law_words.nd rfl (Or.inl rfl))) (fun _ _ _ _ _ => pts_nil) (fun _ _ _ _ _ => (pe_ix ix_tup (pe_ix ix_tup (pv 1) pe_int (fun _ _ => rfl)) (pe_call G__law_draw (hr.mono (by omega)) rfl T.m__law_draw T.F__law_draw.kp T.b__law_draw .nil pass0 (pa_cons (pv 0) (pa_cons (pe_callB call_len rfl T.z_len PySem.boot_len (pa_cons (pe_ix ix_tup (pv 1) pe_int (fun _ _ => rfl)) pa_nil)) pa_nil))) (fun _ _ => rfl)))) pa_nil)))), ?_⟩
  refine ⟨_, rfl, pa, _, 1, _, rfl, rfl, hP, rfl, as, rfl, ⟨_, h2⟩, fun D hD0 => lc_tup (K := K) (a := as) (xs := p.sources.map V.str) (fun i H' => ∃ zs : List Str, Keep st H H' ∧ StOk H' st sc ∧ H' D = some (.lst (zs.map V.str)) ∧ zs.length = i ∧ ∀ z ∈ zs, z ∈ p.words)
    ⟨[], Keep.new hD0, hst.new hD0, upd_same, rfl, fun z h => by cases h⟩ (fun i H' _ ⟨_, k, o, _⟩ => SqT.tk (TK.of_keep k hst.chg) h2) ?_ ?_⟩
  · rintro i x H' hx ⟨zs, k, o, hb, hzl, hin⟩
    have hi : i < p.sources.length := by have := (List.getElem?_eq_some_iff.mp hx).1; rwa [List.length_map] at this
    have tk := TK.of_keep k hst.chg
    refine ⟨rfl, tYes_of ?_⟩
    refine ⟨_, rfl, pa, _, 0, _, rfl, rfl, SqT.tk tk hP, rfl, _, rfl, _, rfl, pa, _, 0, _, rfl, rfl, SqT.tk tk hP, rfl, .ref aw, _, rfl, .inr ⟨_, SqT.tk tk h1, rfl⟩, st, sc, _, rfl, by rw [List.length_map]; omega, by rw [List.length_map]; omega, o, fun r H2 r0 r1 k2 o2 _ => ?_⟩
    rw [List.length_map] at r1
    have hr' : r.toNat < p.words.length := by omega
    have er : r = (r.toNat : Nat) := (Int.toNat_of_nonneg r0).symm
    have tk2 := tk.trans (TK.of_keep k2 o.chg)
    have nD := hst.ne hD0
    refine ⟨aw, _, r, .str p.words[r.toNat], rfl, rfl, SqT.tk tk2 h1, at_word r0 hr', ?_⟩
    have hb2 := k2 _ _ nD.1 hb
    refine ⟨_, hb2, small1000 (by rw [List.length_map]; omega), zs ++ [p.words[r.toNat]], (k.trans k2).own hD0, o2.other nD.1 nD.2, by rw [upd_same, List.map_append]; rfl, by rw [List.length_append, hzl]; rfl, fun z hz => ?_⟩
    rcases List.mem_append.mp hz with h | h
    · exact hin z h
    · rw [List.mem_singleton.mp h]; exact List.getElem_mem _
  · rintro H' ⟨zs, k, o, hb, hzl, hin⟩
    rw [List.length_map] at hzl
    refine ⟨D, _, rfl, .inl ⟨SqL.of hb, fun wa hwa => ?_⟩⟩
    exact q wa zs _ (k.trans (Keep.new hwa)) (o.new hwa) (SqT.of upd_same) hzl hin
end
end K07
namespace K07
open PySem PySem.Spec PyProof.Rows L2 Td
/-- noted and peeked cells are among C -/
def keysIn (C : List Str) (st : RS) : Prop := ∀ p ∈ st.noted ++ st.peeked, p.1 ∈ C
mutual
theorem keys_R {C : List Str} {S : Sc} {kn : Str → Str} {d : Str} (hS : ∀ c ∈ S.readable, c ∈ C) : ∀ (r : Td.Row) (dep : Nat) (st : RS), okR S dep r → keysIn C st → keysIn C (runR kn d r st).1
  | .rd pk c s, dep, st, ok, h => by
    unfold okR at ok
    have hc := hS c ok.2.1
    have hg : ∀ L : Td.Env, (∀ p ∈ L, p.1 ∈ C) → ∀ p ∈ sdE L c (kn c), p.1 ∈ C := fun L hL p hp => by
      rcases sd_mem hp with q | ⟨e1, _⟩
      · exact hL p q
      · rw [e1]; exact hc
    have hn : ∀ p ∈ st.noted, p.1 ∈ C := fun p hp => h p (List.mem_append_left _ hp)
    have hp : ∀ p ∈ st.peeked, p.1 ∈ C := fun p hp => h p (List.mem_append_right _ hp)
    simp only [runR]
    intro p hp'
    rcases List.mem_append.mp hp' with q | q
    · cases pk
      · exact hg _ hn p q
      · exact hn p q
    · cases pk
      · exact hp p q
      · exact hg _ hp p q
  | .put s u, dep, st, ok, h => by simp only [runR]; exact h
  | .give s, dep, st, ok, h => by simp only [runR]; exact h
  | .say s, dep, st, ok, h => by simp only [runR]; exact h
  | .wr c s, dep, st, ok, h => by simp only [runR]; exact h
  | .ite s u y n, dep, st, ok, h => by
    unfold okR at ok
    simp only [runR]
    split
    · exact keys_Rs hS y (dep + 1) st ok.2.2.2.1 h
    · exact keys_Rs hS n (dep + 1) st ok.2.2.2.2 h
theorem keys_Rs {C : List Str} {S : Sc} {kn : Str → Str} {d : Str} (hS : ∀ c ∈ S.readable, c ∈ C) : ∀ (rs : List Td.Row) (dep : Nat) (st : RS), okRs S dep rs → keysIn C st → keysIn C (runRs kn d rs st).1
  | [], dep, st, ok, h => by simp only [runRs]; exact h
  | r :: rs, dep, st, ok, h => by
    unfold okRs at ok
    have h1 := keys_R hS (kn := kn) (d := d) r dep st ok.1 h
    by_cases hb : (runR kn d r st).2 = true
    · rw [runRs_yes _ hb]; exact h1
    · rw [runRs_no _ hb]; exact keys_Rs hS rs dep _ ok.2 h1
end
theorem rs0_nm {d : Str} (hd : isNm d = true) : (rs0 d).Nm :=
  ⟨fun _ h => (nomatch h), fun _ h => (nomatch h), fun _ h => (nomatch h), fun _ h => (nomatch h), fun _ h => (nomatch h), hd⟩
theorem d0_nm {p : PP} {m : Nat} (ok : p.Ok m) : isNm (d0 p) = true := by
  have h := ok.w2
  unfold d0
  cases hw : p.words with
  | nil => rw [hw] at h; simp at h
  | cons z r => exact ok.wn.good z (by rw [hw]; exact List.mem_cons_self)
theorem knF_mem {kn : Td.Env} {c : Str} (h : (getE kn c).isSome = true) : ∃ q ∈ kn, q.2 = knF kn c := by
  obtain ⟨u, hu⟩ := Option.isSome_iff_exists.mp h
  obtain ⟨q, hq, e⟩ := get_has hu
  exact ⟨q, hq, by unfold knF; rw [hu]; exact e⟩
theorem cell_nm {p : PP} {m : Nat} (ok : p.Ok m) {c : Str} (h : c ∈ p.sources ∨ c ∈ p.derived.map (·.1)) : isNm c = true := by
  refine ok.nn.good c ?_
  unfold PP.names
  rcases h with h | h
  · exact List.mem_append_left _ (List.mem_append_left _ h)
  · exact List.mem_append_left _ (List.mem_append_right _ h)
/-- all the told words are names -/
theorem tell_nm {p : PP} {m : Nat} {ws : List Str} (ok : p.Ok m) (hl : ws.length = p.sources.length) (hw : ∀ z ∈ ws, z ∈ p.words) : ∀ i, ∀ q ∈ tell (d0 p) (p.sources.zip ws) (p.derived.take i), isNm q.2 = true
  | 0, q, hq => by
    rw [List.take_zero] at hq
    have : q.2 ∈ ws := (List.of_mem_zip (show (q.1, q.2) ∈ p.sources.zip ws from hq)).2
    exact ok.wn.good _ (hw _ this)
  | i + 1, q, hq => by
    by_cases hi : i < p.derived.length
    · have hq2 : p.derived[i]? = some p.derived[i] := List.getElem?_eq_getElem hi
      rw [take_more hq2, tell_snoc] at hq
      have ih := tell_nm ok hl hw i
      rcases put_mem hq with h | ⟨_, h⟩
      · exact ih q h
      · rw [h]
        obtain ⟨okd, _⟩ := okDer_get ok.der hq2
        refine (nm_Rs (S := ⟨false, p.words, p.sources, p.sources ++ (p.derived.take i).map (·.1)⟩) ⟨fun c hc => ?_, fun c hc => cell_nm ok (.inl hc), ok.wn.good⟩ (d0_nm ok) _ 1 _ okd (rs0_nm (d0_nm ok))).gi
        have hcell : c ∈ p.sources ∨ c ∈ (p.derived.take i).map (·.1) := List.mem_append.mp hc
        have hs : (getE (tell (d0 p) (p.sources.zip ws) (p.derived.take i)) c).isSome = true := tell_has _ _ _ _ (hcell.elim (fun h => .inl (zip_has h hl.symm)) .inr)
        obtain ⟨r, hr, e⟩ := knF_mem hs
        refine ⟨cell_nm ok (hcell.imp id fun h => ?_), by rw [← e]; exact ih r hr⟩
        obtain ⟨y, hy, e⟩ := List.mem_map.mp h
        exact List.mem_map.mpr ⟨y, List.mem_of_mem_take hy, e⟩
    · rw [List.take_of_length_le (by omega)] at hq
      exact tell_nm ok hl hw i q (by rw [List.take_of_length_le (by omega)]; exact hq)
/-- what a body's run gives -/
theorem run_facts {p : PP} {m : Nat} {ws : List Str} {q : Str × List Td.Row} (ok : p.Ok m) (hm : m ≤ 16) (hl : ws.length = p.sources.length) (hw : ∀ z ∈ ws, z ∈ p.words) (hin : q ∈ p.derived ++ p.effects) :
    (runOf p ws q.2).Nm ∧ (runOf p ws q.2).Few 16 ∧ keysIn p.cells (runOf p ws q.2) := by
  have gen : ∀ S : Sc, okRs S 1 q.2 → (∀ c ∈ S.readable, c ∈ p.cells) → S.sources = p.sources → S.words = p.words → cnts q.2 ≤ m → (runOf p ws q.2).Nm ∧ (runOf p ws q.2).Few 16 ∧ keysIn p.cells (runOf p ws q.2) := fun S okq hr e1 e2 hc => by
    refine ⟨nm_Rs (S := S) ⟨fun c hc => ?_, fun c hc => cell_nm ok (.inl (e1 ▸ hc)), fun c hc => ok.wn.good c (e2 ▸ hc)⟩ (d0_nm ok) q.2 1 _ okq (rs0_nm (d0_nm ok)), ?_, keys_Rs hr q.2 1 _ okq fun x hx => by cases hx⟩
    · have hcell := List.mem_append.mp (hr c hc)
      have hs : (getE (known0 p ws) c).isSome = true := tell_has _ _ _ _ (hcell.elim (fun h => .inl (zip_has h hl.symm)) .inr)
      obtain ⟨r, hr, e⟩ := knF_mem hs
      refine ⟨cell_nm ok hcell, by rw [← e]; exact tell_nm ok hl hw p.derived.length r (by rw [List.take_length]; exact hr)⟩
    · have := few_Rs (knF (known0 p ws)) (d0 p) q.2 (rs0 (d0 p)) 0 (few0 _)
      exact this.mono (by omega)
  rcases List.mem_append.mp hin with h | h
  · obtain ⟨i, hi⟩ := List.getElem?_of_mem h
    obtain ⟨h1, h2⟩ := okDer_get ok.der hi
    refine gen _ h1 (fun c hc => ?_) rfl rfl h2
    rcases List.mem_append.mp hc with hc | hc
    · exact List.mem_append_left _ hc
    · obtain ⟨y, hy, e⟩ := List.mem_map.mp hc
      exact List.mem_append_right _ (List.mem_map.mpr ⟨y, List.mem_of_mem_take hy, e⟩)
  · obtain ⟨i, hi⟩ := List.getElem?_of_mem h
    obtain ⟨h1, h2⟩ := okEff_get ok.eff hi
    exact gen _ h1 (fun c hc => hc) rfl rfl h2
theorem known_has {p : PP} {ws : List Str} {c : Str} (hl : ws.length = p.sources.length) (h : c ∈ p.cells) : (getE (known0 p ws) c).isSome = true :=
  tell_has _ _ _ _ ((List.mem_append.mp h).elim (fun h => .inl (zip_has h hl.symm)) .inr)
theorem runs_hang (p : PP) (w1 w2 : List Str) (rs : List Td.Row) (dv : Bool) :
    agree (knF (known0 p w1)) (runOf p w1 rs) = true ∧ (agree (knF (known0 p w2)) (runOf p w1 rs) = true ↔ (runOf p w1 rs).shows (runOf p w2 rs) dv) :=
  hangs _ _ _ _ _ _ fun kn => ⟨fun c u h => (nomatch h), fun c u h => (nomatch h)⟩
end K07
namespace K07
open PySem PySem.Spec PyProof.Rows L2 Td
theorem ans_says (vn vp vs vw : Addr) (vo : V) : valV (ansK vn vp vs vw vo) (.inr "says") = some (.ref vs) := by kernel_rfl
theorem ans_writes (vn vp vs vw : Addr) (vo : V) : valV (ansK vn vp vs vw vo) (.inr "writes") = some (.ref vw) := by kernel_rfl
theorem ans_word (vn vp vs vw : Addr) (vo : V) : valV (ansK vn vp vs vw vo) (.inr "word") = some vo := by kernel_rfl
theorem envD_eqv (L M : Td.Env) : PyData.eqv (envD L) (envD M) = decide (L = M) := by unfold envD; simp only [PyData.eqv, env_eqvAll]
theorem strsD_eqv (L M : List Str) : PyData.eqv (strsD L) (strsD M) = decide (L = M) := by unfold strsD; simp only [PyData.eqv, strs_eqvAll]
theorem envD_lay {L : Td.Env} (h : ∀ p ∈ L, isNm p.1 = true ∧ isNm p.2 = true) : (envD L).canLay0 = true := by unfold envD; simp only [PyData.canLay0, env_lay L h]
theorem strsD_lay {L : List Str} (h : ∀ z ∈ L, isNm z = true) : (strsD L).canLay0 = true := by unfold strsD; simp only [PyData.canLay0, strs_lay L h]
theorem envD_deep (L : Td.Env) : (envD L).depth ≤ 60 := by unfold envD; simp only [PyData.depth]; have := env_deep L; omega
theorem strsD_deep (L : List Str) : (strsD L).depth ≤ 60 := by unfold strsD; simp only [PyData.depth]; have := strs_deep L; omega
def wordD (dv : Bool) (g : Str) : PyData := if dv then .str g else .none
theorem wordD_at {K : PySem.W.Frag} {H : Hp} (dv : Bool) (g : Str) : Dp K H (wordV dv g) (wordD dv g) := by
  cases dv
  · exact .non
  · exact .str g
theorem wordD_eqv (dv : Bool) (g g' : Str) : PyData.eqv (wordD dv g) (wordD dv g') = (!dv || decide (g = g')) := by
  cases dv
  · rfl
  · simp only [wordD, if_true, PyData.eqv]
    rfl
theorem wordD_lay {dv : Bool} {g : Str} (h : isNm g = true) : (wordD dv g).canLay0 = true := by
  cases dv
  · rfl
  · simp only [wordD, if_true, PyData.canLay0, nm_ok h]
theorem wordD_deep (dv : Bool) (g : Str) : (wordD dv g).depth ≤ 60 := by
  cases dv
  · simp [wordD, PyData.depth]
  · simp [wordD, PyData.depth]
theorem ans_eq {K : PySem.W.Frag} {H : Hp} {a b : Addr} {st s2 : RS} {dv : Bool} {Q : VK} (h1 : AnsAt K H a st dv) (h2 : AnsAt K H b s2 dv) (n1 : st.Nm) (n2 : s2.Nm) (q : ∀ r : Bool, (r = true ↔ st.shows s2 dv) → Q (.bl r) H) : rEqK K (.ref a) (.ref b) H Q := by
  obtain ⟨vn, vp, vs, vw, e, g1, g2, g3, g4⟩ := h1.ex
  obtain ⟨un, up, us, uw, e', k1, k2, k3, k4⟩ := h2.ex
  refine ⟨a, b, _, _, _, rfl, rfl, e, e', rfl, ⟨_, _, _, _, ans_notes .., g1.dp, k1.dp, envD_lay n1.no, envD_lay n2.no, envD_deep _, ⟨_, _, _, _, ans_peeks .., g2.dp, k2.dp, envD_lay n1.pe, envD_lay n2.pe, envD_deep _, ⟨_, _, _, _, ans_says .., g3.dp, k3.dp, strsD_lay n1.sa, strsD_lay n2.sa, strsD_deep _,
    ⟨_, _, _, _, ans_writes .., g4.dp, k4.dp, envD_lay n1.wr, envD_lay n2.wr, envD_deep _, ⟨_, _, _, true, ans_word .., wordD_at dv st.given, wordD_at dv s2.given, wordD_lay n1.gi, wordD_lay n2.gi, wordD_deep .., rfl, rfl⟩, rfl⟩, rfl⟩, rfl⟩, rfl⟩, ?_⟩
  rw [envD_eqv, envD_eqv, strsD_eqv, envD_eqv, wordD_eqv]
  refine q _ ?_
  unfold RS.shows
  cases dv <;> simp
theorem ixN_lt {n j : Nat} (h : j < n) : ixN n (j : Int) = some j := by
  unfold ixN
  rw [if_pos (Int.natCast_nonneg j), if_pos (by omega), Int.toNat_natCast]
theorem ne_bl (r : Bool) : (!decide (V.bl r = V.bl r)) = false := by rw [decide_eq_true rfl]; rfl
theorem shows_symm {st s2 : RS} {dv : Bool} : st.shows s2 dv ↔ s2.shows st dv :=
  ⟨fun ⟨a, b, c, d, e⟩ => ⟨a.symm, b.symm, c.symm, d.symm, fun h => (e h).symm⟩, fun ⟨a, b, c, d, e⟩ => ⟨a.symm, b.symm, c.symm, d.symm, fun h => (e h).symm⟩⟩
theorem bool_iff {a b : Bool} (h : a = true ↔ b = true) : a = b := by
  cases a <;> cases b <;> simp_all
def spLaw (K : PySem.W.Frag) : Sp := fun vs H Q _ => ∃ (a : Addr) (ns : List Int), vs = [.ref a] ∧ SqL K H a (ns.map V.int) ∧ ns.length ≤ 63 ∧ ∀ H', Q (.bl true) H'
section
variable {P : Program} {w : World} {K : PySem.W.Frag} {mg : Str → Option Value} {base : Heap}
theorem ok_law (T : Tops w K mg)
    (G__law_state : FnOk P w K mg base CX0 1 T.a__law_state T.d__law_state ["_law_script"] (spState K))
    (G__law_draw : FnOk P w K mg base CX0 1 T.a__law_draw T.d__law_draw ["_law_state_here", "_law_many_here"] spDraw)
    (G__law_parts : FnOk P w K mg base CX0 11 T.a__law_parts T.d__law_parts ["_law_state_here", "_law_sizes", "_law_peeks", "_law_writes"] (spParts K))
    (G__law_words : FnOk P w K mg base CX0 2 T.a__law_words T.d__law_words ["_law_state_here", "_law_parts_here"] (spLawWords K))
    (G__law_true : FnOk P w K mg base CX0 5 T.a__law_true T.d__law_true ["_law_parts_here", "_law_words_here"] (spLawTrue K))
    (G__law_same : FnOk P w K mg base CX0 1 T.a__law_same T.d__law_same ["_law_answer", "_law_told"] (spSame K))
    (G_Program_init : FnOk P w K mg base CX0 10 T.a_Program_init T.d_Program_init ["self", "words", "sources", "derived", "effects"] (spProgram K T.c_Program))
    (G_true_run : FnOk P w K mg base CX0 9 T.a_true_run T.d_true_run ["program", "words", "name"] (spTrue K T.c_Program)) :
    FnOk P w K mg base CX0 12 T.a_law T.d_law ["_law_script"] (spLaw K) := by
  refine T.F_law.ok sc_law (fun vs H Q E h => ?_) (fun cdv A outer s H vs Q E hr h => ?_)
  · obtain ⟨a, ns, rfl, _⟩ := h
    rfl
  obtain ⟨a, ns, rfl, hN, hlen, q⟩ := h
  refine ⟨_, (pss_cons (ps_set (i := 1) sc_law.nd rfl (Or.inl rfl) (pe_call G__law_state (hr.mono (by omega)) rfl T.m__law_state T.F__law_state.kp T.b__law_state .nil pass0 (pa_cons (pv 0) pa_nil)))
    (pss_cons (ps_set (i := 2) sc_law.nd rfl (Or.inl rfl) (pe_call G__law_parts (hr.mono (by omega)) rfl T.m__law_parts T.F__law_parts.kp T.b__law_parts .nil pass0 (pa_cons (pv 1) (pa_cons (pe_lst (pa_cons pe_int (pa_cons pe_int (pa_cons pe_int (pa_cons pe_int (pa_cons pe_int pa_nil)))))) (pa_cons pe_bl (pa_cons pe_bl pa_nil))))))
    (pss_cons (ps_set (i := 3) sc_law.nd rfl (Or.inl rfl) (pe_call G__law_words (hr.mono (by omega)) rfl T.m__law_words T.F__law_words.kp T.b__law_words .nil pass0 (pa_cons (pv 1) (pa_cons (pv 2) pa_nil))))
    (pss_cons (ps_set (i := 4) sc_law.nd rfl (Or.inl rfl) (pe_callTy call_list_of rfl T.z_list (by decide +kernel) (pa_cons (pv 3) pa_nil)))
    (pss_cons (ps_for PassesOwn.never rfl (pi_range1 rfl T.z_range (pa_cons (pe_callB call_len rfl T.z_len PySem.boot_len (pa_cons (pv 4) pa_nil)) pa_nil)) (pg_name (i := 5) sc_law.nd rfl (Or.inl rfl)) (pss_one (ps_if (pt_cmpR op_eq (pe_call G__law_draw (hr.mono (by omega)) rfl T.m__law_draw T.F__law_draw.kp T.b__law_draw .nil pass0 (pa_cons (pv 1) (pa_cons pe_int pa_nil))) pe_int (nomark _)) (pss_one (ps_asg (pe_ix ix_tup (pe_ix ix_tup (pv 2) pe_int (fun _ _ => rfl)) (pe_call G__law_draw (hr.mono (by omega)) rfl T.m__law_draw T.F__law_draw.kp T.b__law_draw .nil pass0 (pa_cons (pv 1) (pa_cons (pe_callB call_len rfl T.z_len PySem.boot_len (pa_cons (pe_ix ix_tup (pv 2) pe_int (fun _ _ => rfl)) pa_nil)) pa_nil))) (fun _ _ => rfl)) (pg_sub (pv 4) (pv 5) set_list))) pss_nil)))
    (pss_cons (ps_set (i := 6) sc_law.nd rfl (Or.inl rfl) (pe_make T.k_Program G_Program_init (hr.mono (by omega)) rfl T.m_Program T.b_Program_init .nil pass0 (pa_cons (pe_ix ix_tup (pv 2) pe_int (fun _ _ => rfl)) (pa_cons (pe_ix ix_tup (pv 2) pe_int (fun _ _ => rfl)) (pa_cons (pe_ix ix_tup (pv 2) pe_int (fun _ _ => rfl)) (pa_cons (pe_ix ix_tup (pv 2) pe_int (fun _ _ => rfl)) pa_nil))))))
    (pss_cons (ps_set (i := 7) sc_law.nd rfl (Or.inl rfl) (pe_call G__law_true (hr.mono (by omega)) rfl T.m__law_true T.F__law_true.kp T.b__law_true .nil pass0 (pa_cons (pv 2) (pa_cons (pv 3) pa_nil))))
    (pss_cons (ps_set (i := 8) sc_law.nd rfl (Or.inl rfl) (pe_call G__law_true (hr.mono (by omega)) rfl T.m__law_true T.F__law_true.kp T.b__law_true .nil pass0 (pa_cons (pv 2) (pa_cons (pv 4) pa_nil))))
    (pss_cons (ps_for PassesOwn.never rfl (pi_tup (pe_op op_catA (pe_ix ix_tup (pv 2) pe_int (fun _ _ => rfl)) (pe_ix ix_tup (pv 2) pe_int (fun _ _ => rfl)))) (pg_name (i := 9) sc_law.nd rfl (Or.inl rfl)) (pss_cons (ps_set (i := 10) sc_law.nd rfl (Or.inl rfl) (pe_call G_true_run (hr.mono (by omega)) rfl T.m_true_run T.F_true_run.kp T.b_true_run .nil pass0 (pa_cons (pv 6) (pa_cons (pv 3) (pa_cons (pe_ix ix_tup (pv 9) pe_int (fun _ _ => rfl)) pa_nil)))))
    (pss_cons (ps_set (i := 11) sc_law.nd rfl (Or.inl rfl) (pe_call G_true_run (hr.mono (by omega)) rfl T.m_true_run T.F_true_run.kp T.b_true_run .nil pass0 (pa_cons (pv 6) (pa_cons (pe_callTy call_tuple_of rfl T.z_tuple (by decide +kernel) (pa_cons (pv 4) pa_nil)) (pa_cons (pe_ix ix_tup (pv 9) pe_int (fun _ _ => rfl)) pa_nil)))))
    (pss_cons (ps_if (PW.pt (pw_or (pt_not (pt_val (pe_call G__law_same (hr.mono (by omega)) rfl T.m__law_same T.F__law_same.kp T.b__law_same .nil pass0 (pa_cons (pv 10) (pa_cons (pv 7) pa_nil))))) (pw_or1 (pt_not (pt_val (pe_call G__law_same (hr.mono (by omega)) rfl T.m__law_same T.F__law_same.kp T.b__law_same .nil pass0 (pa_cons (pv 11) (pa_cons (pv 8) pa_nil)))))))) (pss_one (ps_ret pe_bl)) pss_nil)
    (pss_one (ps_if (PW.pt (pw_or (pt_cmpR op_ne (pe_call G__law_same (hr.mono (by omega)) rfl T.m__law_same T.F__law_same.kp T.b__law_same .nil pass0 (pa_cons (pv 10) (pa_cons (pv 8) pa_nil))) (pe_cmpR (op_eqK hr.units) (pv 10) (pv 11) (nomark _)) (nomark _)) (pw_or1 (pt_cmpR op_ne (pe_call G__law_same (hr.mono (by omega)) rfl T.m__law_same T.F__law_same.kp T.b__law_same .nil pass0 (pa_cons (pv 11) (pa_cons (pv 7) pa_nil))) (pe_cmpR (op_eqK hr.units) (pv 10) (pv 11) (nomark _)) (nomark _))))) (pss_one (ps_ret pe_bl)) pss_nil))))))
    (pss_one (ps_ret pe_bl))))))))))), ?_⟩
  refine ⟨_, rfl, a, ns, rfl, hN, hlen, fun st sc H1 s1 f1 f2 o1 => ?_⟩
  refine ⟨_, rfl, by show 5 ≤ sizeLine; decide, fun z hz => ?_⟩
  have o2 := o1.new (o := .lst [V.int 3, .int 4, .int 6, .int 4, .int 15]) hz
  refine ⟨st, sc, z, 3, 4, 6, 4, 15, true, true, rfl, o2, SqL.of upd_same, (o1.ne hz).1, by decide, by decide, by decide, by decide, by decide, by decide, by decide, by decide, by decide, by decide, fun v p H3 k3 o3 ok hD => ?_⟩
  generalize upd H1 z (.lst [V.int 3, .int 4, .int 6, .int 4, .int 15]) = H2 at k3 o2
  refine ⟨_, rfl, _, rfl, st, sc, v, p, _, rfl, o3, hD, ok, fun wa ws H4 k4 o4 hW hwl hwi => ?_⟩
  have hD4 := Tn.keep (TK.of_keep k4 o3.chg) hD
  obtain ⟨pa, aw, as, vd, ve, rfl, hP, h1, h2, h3, h4⟩ := parts_at hD4
  have w2 := ok.w2
  have w4 := ok.w4
  have s4 := ok.s4
  have e4 := ok.e4
  have d6 := ok.d6
  refine ⟨_, rfl, wa, _, rfl, .inr hW, fun sl hsl => ?_⟩
  have nS := o4.ne hsl
  have o5 := o4.new (o := .lst (ws.map V.str)) hsl
  have k5 : Keep st H4 (upd H4 sl (.lst (ws.map V.str))) := Keep.new hsl
  have l5 : upd H4 sl (.lst (ws.map V.str)) sl = some (.lst (ws.map V.str)) := upd_same
  dsimp only
  generalize upd H4 sl (.lst (ws.map V.str)) = H5 at o5 k5 l5
  refine ⟨_, rfl, .ref sl, _, rfl, .inl ⟨_, SqL.of l5, rfl⟩, (((ws.map V.str).length : Nat) : Int), rfl, by rw [List.length_map]; omega, by rw [List.length_map]; omega, for_range (lo := 0) (n := (((ws.map V.str).length : Nat) : Int).toNat)
    (fun i σ H' => ∃ (v5 : Option V) (zs : List Str), σ = [some (.ref a), some (.ref st), some (.ref pa), some (.ref wa), some (.ref sl), v5, none, none, none, none, none, none] ∧ Keep st H4 H' ∧ StOk H' st sc ∧ H' sl = some (.lst (zs.map V.str)) ∧ zs.length = ws.length ∧ ∀ y ∈ zs, y ∈ p.words) ⟨none, ws, rfl, k5, o5, l5, rfl, hwi⟩ ?_ ?_⟩
  · rintro i σ H6 hi ⟨v5, zs, rfl, k6, o6, l6, zl, zi⟩
    rw [List.length_map, Int.toNat_natCast] at hi
    rw [show (0 : Int) + (i : Nat) = (i : Nat) by omega]
    refine ⟨_, rfl, st, sc, 2, rfl, by decide, by decide, o6, fun r H7 r0 r1 k7 o7 _ => ?_⟩
    have k47 := k6.trans k7
    have l7 := k7 _ _ nS.1 l6
    refine ⟨rfl, _, rfl, ?_⟩
    by_cases er : r = 0
    · refine if_true_of (by rw [er]; exact decide_eq_true rfl) ?_
      have tk := TK.of_keep k47 o4.chg
      refine ⟨_, rfl, pa, _, 0, _, rfl, rfl, SqT.tk tk hP, rfl, _, rfl, _, rfl, pa, _, 0, _, rfl, rfl, SqT.tk tk hP, rfl, .ref aw, _, rfl, .inr ⟨_, SqT.tk tk h1, rfl⟩, st, sc, _, rfl, by rw [List.length_map]; omega, by rw [List.length_map]; omega, o7, fun t H8 t0 t1 k8 o8 _ => ?_⟩
      rw [List.length_map] at t1
      have ht : t.toNat < p.words.length := by omega
      have k48 := k47.trans k8
      have tk8 := TK.of_keep k48 o4.chg
      have l8 := k8 _ _ nS.1 l7
      refine ⟨aw, _, t, .str p.words[t.toNat], rfl, rfl, SqT.tk tk8 h1, at_word t0 ht, ?_⟩
      refine ⟨_, rfl, _, rfl, sl, _, (i : Nat), i, rfl, rfl, l8, ?_, ?_⟩
      · rw [List.length_map, zl]; exact ixN_lt hi
      · refine ⟨_, zs.set i p.words[t.toNat], rfl, k48.own hsl, o8.other nS.1 nS.2, by rw [upd_same, List.map_set], by rw [List.length_set, zl], fun y hy => ?_⟩
        rcases List.mem_or_eq_of_mem_set hy with h | h
        · exact zi y h
        · rw [h]; exact List.getElem_mem _
    · exact if_false_of (decide_eq_false (fun h => er (by injection h))) ⟨_, zs, rfl, k47, o7, l7, zl, zi⟩
  · rintro σ H6 ⟨v5, zs, rfl, k6, o6, l6, zl, zi⟩
    have tk := TK.of_keep k6 o4.chg
    have P6 := SqT.tk tk hP
    have hW6 := SqT.tk tk hW
    have D6 := Tn.keep tk h3
    have E6 := Tn.keep tk h4
    have A6 := SqT.tk tk h1
    have B6 := SqT.tk tk h2
    have T6 := Tn.keep tk hD4
    refine ⟨_, rfl, pa, _, 0, _, rfl, rfl, P6, rfl, _, rfl, pa, _, 1, _, rfl, rfl, P6, rfl, _, rfl, pa, _, 2, _, rfl, rfl, P6, rfl, _, rfl, pa, _, 3, _, rfl, rfl, P6, rfl, fun x dx hx hdx hne => ?_⟩
    have sx : Same H6 (upd (upd H6 dx (.own x)) x (.ins T.c_Program dx [])) := (Same.new hdx _).trans (Same.new (by rw [upd_ne (Ne.symm hne)]; exact hx) _)
    refine ⟨x, dx, aw, as, vd, ve, p, _, rfl, upd_same, SqT.same sx A6, SqT.same sx B6, Tn.same sx D6, Tn.same sx E6, ok, by decide, fun dn en H7 s7 hdn hen => ⟨rfl, ?_⟩⟩
    have s67 : Same H6 (upd H7 x (.ins T.c_Program dx (progF aw as vd ve dn en))) := own_same (sx.trans s7) hx
    have hPr : ProgAt K (upd H7 x (.ins T.c_Program dx (progF aw as vd ve dn en))) T.c_Program x p := ⟨dx, aw, as, vd, ve, ⟨dn, en, upd_same, hdn, hen⟩, SqT.same s67 A6, SqT.same s67 B6, Tn.same s67 D6, Tn.same s67 E6⟩
    dsimp only
    generalize upd H7 x (.ins T.c_Program dx (progF aw as vd ve dn en)) = H8 at s67 hPr
    refine ⟨_, rfl, _, rfl, .ref pa, wa, p, _, ws, rfl, Tn.same s67 T6, ok, by decide, .inr (SqT.same s67 hW6), hwl, fun t1 H9 s9 e9 => ?_⟩
    have s69 := s67.trans s9
    refine ⟨_, rfl, _, rfl, .ref pa, sl, p, _, zs, rfl, Tn.same s69 T6, ok, by decide, .inl (SqL.of (s69 _ _ l6)), zl.trans hwl, fun t2 H10 s10 e10 => ?_⟩
    have s6a := s69.trans s10
    have s8a := s9.trans s10
    have e9' := s10 _ _ e9
    have l10 := s6a _ _ l6
    have Pa := SqT.same s6a P6
    obtain ⟨ad, xs, rfl, hA, hTA⟩ := Tn.tup_inv (Tn.same s6a D6)
    obtain ⟨ae, ys, rfl, hA2, hTA2⟩ := Tn.tup_inv (Tn.same s6a E6)
    have lx := hTA.length
    have ly := hTA2.length
    rw [List.length_map] at lx ly
    refine ⟨_, rfl, pa, _, 2, _, rfl, rfl, Pa, rfl, _, rfl, pa, _, 3, _, rfl, rfl, Pa, rfl, ?_⟩
    refine cat_all hA hA2 (Nat.le_of_lt (small1000 (by omega))) (fun c H11 s11 hc => ?_)
    have hT : Tn K H11 (.ref c) (pairsD (p.derived ++ p.effects)) := .tup hc (TnAll.keep (TK.of_same s11) (pairs_append hTA hTA2))
    obtain ⟨c', us, e2, hC, hl, hx2⟩ := pairs_at hT
    cases e2
    have P11 := hPr.same (s8a.trans s11)
    have W11 := SqT.same (s6a.trans s11) hW6
    have T1 := s11 _ _ e9'
    have T2 := s11 _ _ e10
    have L11 := s11 _ _ l10
    refine ⟨c, rfl, ⟨_, hC⟩, for_tup (K := K) (a := c) (xs := us) (fun i σ H' => ∃ (v9 v10 v11 : Option V), σ = [some (.ref a), some (.ref st), some (.ref pa), some (.ref wa), some (.ref sl), v5, some (.ref x), some (.ref t1), some (.ref t2), v9, v10, v11] ∧ Same H11 H')
      ⟨none, none, none, rfl, Same.refl _⟩ (fun i σ H' _ ⟨_, _, _, _, hs⟩ => SqT.same hs hC) ?_ ?_⟩
    · rintro i y σ H12 hi ⟨v9, v10, v11, rfl, hs⟩
      obtain ⟨qq, b, vr, hq, rfl, hB, hR⟩ := hx2 i y hi
      have hin : qq ∈ p.derived ++ p.effects := List.mem_of_getElem? hq
      refine ⟨_, rfl, _, rfl, _, rfl, b, _, 0, _, rfl, rfl, SqT.same hs hB, rfl, x, wa, qq.1, p, _, ws, qq, rfl, P11.same hs, ok, by decide, SqT.same hs W11, hwl, hwi, hin, rfl, fun a1 H13 s13 _ hA1 => ?_⟩
      have hs13 := hs.trans s13
      refine ⟨_, rfl, _, rfl, sl, _, rfl, .inl ⟨SqL.of (hs13 _ _ L11), fun wb hwb => ?_⟩⟩
      have s14 : Same H13 (upd H13 wb (.tup (zs.map V.str))) := Same.new hwb _
      have hWb : SqT K (upd H13 wb (.tup (zs.map V.str))) wb (zs.map V.str) := SqT.of upd_same
      generalize upd H13 wb (.tup (zs.map V.str)) = H14 at s14 hWb
      have hs14 := hs13.trans s14
      refine ⟨_, rfl, b, _, 0, _, rfl, rfl, SqT.same hs14 hB, rfl, x, wb, qq.1, p, _, zs, qq, rfl, P11.same hs14, ok, by decide, hWb, zl.trans hwl, zi, hin, rfl, fun a2 H15 s15 _ hA2' => ?_⟩
      have hs15 := hs14.trans s15
      have B1 := hA1.same (s14.trans s15)
      obtain ⟨m1, f1, c1⟩ := run_facts (ws := ws) ok (by decide) hwl hwi hin
      obtain ⟨m2, f2, c2⟩ := run_facts (ws := zs) ok (by decide) (zl.trans hwl) zi hin
      obtain ⟨g1, g2⟩ := runs_hang p ws zs qq.2 (isDer p qq.1)
      obtain ⟨g3, g4⟩ := runs_hang p zs ws qq.2 (isDer p qq.1)
      have hwz := zl.trans hwl
      generalize runOf p ws qq.2 = r1 at B1 m1 f1 c1 g1 g2 g4
      generalize runOf p zs qq.2 = r2 at hA2' m2 f2 c2 g2 g3 g4
      have T15 := hs15 _ _ T1
      have U15 := hs15 _ _ T2
      refine ⟨_, rfl, _, rfl, a1, t1, r1, isDer p qq.1, known0 p ws, 16, rfl, B1, T15, f1, by decide, fun y hy => known_has hwl (c1 y hy), fun H16 s16 => ?_⟩
      rw [g1]
      refine ⟨_, rfl, iteF ?_⟩
      refine ⟨_, rfl, _, rfl, a2, t2, r2, isDer p qq.1, known0 p zs, 16, rfl, hA2'.same s16, s16 _ _ U15, f2, by decide, fun y hy => known_has hwz (c2 y hy), fun H17 s17 => ?_⟩
      rw [g3]
      refine ⟨_, rfl, if_false_of rfl ?_⟩
      have sh := s16.trans s17
      refine ⟨_, rfl, _, rfl, a1, t2, r1, isDer p qq.1, known0 p zs, 16, rfl, B1.same sh, sh _ _ U15, f1, by decide, fun y hy => known_has hwz (c1 y hy), fun H18 s18 => ?_⟩
      have si := sh.trans s18
      refine ⟨_, rfl, _, rfl, ans_eq (B1.same si) (hA2'.same si) m1 m2 (fun r hr => ?_)⟩
      have er : agree (knF (known0 p zs)) r1 = r := bool_iff (g2.trans hr.symm)
      rw [er]
      refine ⟨rfl, _, rfl, ?_⟩
      refine if_false_of (ne_bl r) ?_
      refine ⟨_, rfl, _, rfl, a2, t1, r2, isDer p qq.1, known0 p ws, 16, rfl, hA2'.same si, si _ _ T15, f2, by decide, fun y hy => known_has hwl (c2 y hy), fun H19 s19 => ?_⟩
      have sj := si.trans s19
      refine ⟨_, rfl, _, rfl, ans_eq (B1.same sj) (hA2'.same sj) m1 m2 (fun r' hr' => ?_)⟩
      have er' : agree (knF (known0 p ws)) r2 = r' := bool_iff (g4.trans (shows_symm.trans hr'.symm))
      rw [er']
      refine ⟨rfl, _, rfl, ?_⟩
      refine if_false_of (ne_bl r') ?_
      exact ⟨_, _, _, rfl, hs15.trans sj⟩
    · rintro σ H12 ⟨v9, v10, v11, rfl, hs⟩
      exact q H12
end
end K07
namespace K07
open PySem PySem.Spec PyProof.Rows L2 Td
theorem law_of {w : World} {K : PySem.W.Frag} {mg : Str → Option Value} {base : Heap} (T : Tops w K mg) : FnOk PySem.Challenge.pw_toldonward_k07_whole_runs_hang_on_their w K mg base CX0 12 T.a_law T.d_law ["_law_script"] (spLaw K) := by
  have draw := ok_draw (P := PySem.Challenge.pw_toldonward_k07_whole_runs_hang_on_their) (base := base) T
  have nms := ok_names (P := PySem.Challenge.pw_toldonward_k07_whole_runs_hang_on_their) (base := base) T draw
  have row := ok_row (P := PySem.Challenge.pw_toldonward_k07_whole_runs_hang_on_their) (base := base) T draw
  have rows := ok_rows T draw row (ok_many T 5) 5
  have parts := ok_parts T draw nms rows
  have wrds := ok_law_words T draw
  have tru := ok_law_true T (ok_trows (P := PySem.Challenge.pw_toldonward_k07_whole_runs_hang_on_their) (base := base) T 4)
  have isn := ok_is_name (P := PySem.Challenge.pw_toldonward_k07_whole_runs_hang_on_their) (base := base) T
  have arn := ok_are_names T isn
  have nps := ok_named_pairs T isn
  have nof := ok_names_of (P := PySem.Challenge.pw_toldonward_k07_whole_runs_hang_on_their) (base := base) T
  have fits := fit_held T (ok_read T isn) (ok_put T isn) (ok_slot T isn) (ok_write T isn) (ok_if T isn)
  have fst := ok_first T (ok_valid T fits (ok_check_of T)) 4
  have bod := ok_check_body T fst (ok_paths T 4)
  have bds := ok_check_bodies T bod (ok_scope T)
  have prg := ok_program T (ok_check_parts T arn nps nof) bds nof
  have wi := ok_word_in (P := PySem.Challenge.pw_toldonward_k07_whole_runs_hang_on_their) (base := base) T
  have acts := fitA_held T (ok_do_read T) (ok_do_peek T) (ok_do_put T) (ok_do_write T wi) (ok_do_say T wi)
  have truly := ok_truly T (ok_true_run_init T) (ok_do_rows T acts wi 4)
  have run := ok_true T (ok_start T (ok_is_start T)) (ok_body T) (ok_effect_names (P := PySem.Challenge.pw_toldonward_k07_whole_runs_hang_on_their) (base := base) T) (ok_known T truly) truly (ok_parts_of T)
  exact ok_law T (ok_state T) draw parts wrds tru (ok_same T) prg run
abbrev D_InvalidProgram_init : He.DefD := ⟨("InvalidProgram", some "__init__"), "__init__", "InvalidProgram.__init__", defArgs s_InvalidProgram_init, defBody s_InvalidProgram_init, defScope s_InvalidProgram_init, [], []⟩
abbrev D_InvalidStart_init : He.DefD := ⟨("InvalidStart", some "__init__"), "__init__", "InvalidStart.__init__", defArgs s_InvalidStart_init, defBody s_InvalidStart_init, defScope s_InvalidStart_init, [], []⟩
abbrev D_UnknownCell_init : He.DefD := ⟨("UnknownCell", some "__init__"), "__init__", "UnknownCell.__init__", defArgs s_UnknownCell_init, defBody s_UnknownCell_init, defScope s_UnknownCell_init, [], []⟩
abbrev D_Record_init : He.DefD := ⟨("Record", some "__init__"), "__init__", "Record.__init__", defArgs s_Record_init, defBody s_Record_init, defScope s_Record_init, [], []⟩
abbrev D_Record_parts : He.DefD := ⟨("TrueRun", some "parts"), "parts", "Record.parts", defArgs s_Record_parts, defBody s_Record_parts, defScope s_Record_parts, [], []⟩
abbrev D_TrueRun_word_in : He.DefD := ⟨("TrueRun", some "word_in"), "word_in", "TrueRun.word_in", defArgs s_TrueRun_word_in, defBody s_TrueRun_word_in, defScope s_TrueRun_word_in, [], []⟩
abbrev D_do_read : He.DefD := ⟨("do_read", none), "do_read", "do_read", defArgs s_do_read, defBody s_do_read, defScope s_do_read, [], []⟩
abbrev D_do_peek : He.DefD := ⟨("do_peek", none), "do_peek", "do_peek", defArgs s_do_peek, defBody s_do_peek, defScope s_do_peek, [], []⟩
abbrev D_do_put : He.DefD := ⟨("do_put", none), "do_put", "do_put", defArgs s_do_put, defBody s_do_put, defScope s_do_put, [], []⟩
abbrev D_do_write : He.DefD := ⟨("do_write", none), "do_write", "do_write", defArgs s_do_write, defBody s_do_write, defScope s_do_write, [], []⟩
abbrev D_do_say : He.DefD := ⟨("do_say", none), "do_say", "do_say", defArgs s_do_say, defBody s_do_say, defScope s_do_say, [], []⟩
abbrev D_do_rows : He.DefD := ⟨("do_rows", none), "do_rows", "do_rows", defArgs s_do_rows, defBody s_do_rows, defScope s_do_rows, [], []⟩
abbrev D_run_truly : He.DefD := ⟨("run_truly", none), "run_truly", "run_truly", defArgs s_run_truly, defBody s_run_truly, defScope s_run_truly, [], []⟩
abbrev D_is_start : He.DefD := ⟨("is_start", none), "is_start", "is_start", defArgs s_is_start, defBody s_is_start, defScope s_is_start, [], []⟩
abbrev D_check_start : He.DefD := ⟨("check_start", none), "check_start", "check_start", defArgs s_check_start, defBody s_check_start, defScope s_check_start, [], []⟩
abbrev D_known_words : He.DefD := ⟨("known_words", none), "known_words", "known_words", defArgs s_known_words, defBody s_known_words, defScope s_known_words, [], []⟩
abbrev D_true_run : He.DefD := ⟨("true_run", none), "true_run", "true_run", defArgs s_true_run, defBody s_true_run, defScope s_true_run, [], []⟩
abbrev D_is_name : He.DefD := ⟨("is_name", none), "is_name", "is_name", defArgs s_is_name, defBody s_is_name, defScope s_is_name, [], []⟩
abbrev D_are_names : He.DefD := ⟨("are_names", none), "are_names", "are_names", defArgs s_are_names, defBody s_are_names, defScope s_are_names, [], []⟩
abbrev D_are_named_pairs : He.DefD := ⟨("are_named_pairs", none), "are_named_pairs", "are_named_pairs", defArgs s_are_named_pairs, defBody s_are_named_pairs, defScope s_are_named_pairs, [], []⟩
abbrev D_Scope_init : He.DefD := ⟨("Scope", some "__init__"), "__init__", "Scope.__init__", defArgs s_Scope_init, defBody s_Scope_init, defScope s_Scope_init, [], []⟩
abbrev D_is_read_row : He.DefD := ⟨("is_read_row", none), "is_read_row", "is_read_row", defArgs s_is_read_row, defBody s_is_read_row, defScope s_is_read_row, [], []⟩
abbrev D_is_put_row : He.DefD := ⟨("is_put_row", none), "is_put_row", "is_put_row", defArgs s_is_put_row, defBody s_is_put_row, defScope s_is_put_row, [], []⟩
abbrev D_is_if_row : He.DefD := ⟨("is_if_row", none), "is_if_row", "is_if_row", defArgs s_is_if_row, defBody s_is_if_row, defScope s_is_if_row, [], []⟩
abbrev D_is_slot_row : He.DefD := ⟨("is_slot_row", none), "is_slot_row", "is_slot_row", defArgs s_is_slot_row, defBody s_is_slot_row, defScope s_is_slot_row, [], []⟩
abbrev D_is_write_row : He.DefD := ⟨("is_write_row", none), "is_write_row", "is_write_row", defArgs s_is_write_row, defBody s_is_write_row, defScope s_is_write_row, [], []⟩
abbrev D_check_of : He.DefD := ⟨("check_of", none), "check_of", "check_of", defArgs s_check_of, defBody s_check_of, defScope s_check_of, [], []⟩
abbrev D_is_valid_row : He.DefD := ⟨("is_valid_row", none), "is_valid_row", "is_valid_row", defArgs s_is_valid_row, defBody s_is_valid_row, defScope s_is_valid_row, [], []⟩
abbrev D_first_wrong_path : He.DefD := ⟨("first_wrong_path", none), "first_wrong_path", "first_wrong_path", defArgs s_first_wrong_path, defBody s_first_wrong_path, defScope s_first_wrong_path, [], []⟩
abbrev D_paths_of_rows : He.DefD := ⟨("paths_of_rows", none), "paths_of_rows", "paths_of_rows", defArgs s_paths_of_rows, defBody s_paths_of_rows, defScope s_paths_of_rows, [], []⟩
abbrev D_Program_init : He.DefD := ⟨("Program", some "__init__"), "__init__", "Program.__init__", defArgs s_Program_init, defBody s_Program_init, defScope s_Program_init, [], []⟩
abbrev D_Program_eq : He.DefD := ⟨("Program", some "__eq__"), "__eq__", "Program.__eq__", defArgs s_Program_eq, defBody s_Program_eq, defScope s_Program_eq, [], []⟩
abbrev D_Program_cells : He.DefD := ⟨("Program", some "cells"), "cells", "Program.cells", defArgs s_Program_cells, defBody s_Program_cells, defScope s_Program_cells, [], []⟩
abbrev D_Program_derived_names : He.DefD := ⟨("Program", some "derived_names"), "derived_names", "Program.derived_names", defArgs s_Program_derived_names, defBody s_Program_derived_names, defScope s_Program_derived_names, [], []⟩
abbrev D_Program_effect_names : He.DefD := ⟨("Program", some "effect_names"), "effect_names", "Program.effect_names", defArgs s_Program_effect_names, defBody s_Program_effect_names, defScope s_Program_effect_names, [], []⟩
abbrev D_Program_body : He.DefD := ⟨("Program", some "body"), "body", "Program.body", defArgs s_Program_body, defBody s_Program_body, defScope s_Program_body, [], []⟩
abbrev D_Program_row_paths : He.DefD := ⟨("Program", some "row_paths"), "row_paths", "Program.row_paths", defArgs s_Program_row_paths, defBody s_Program_row_paths, defScope s_Program_row_paths, [], []⟩
abbrev D_Program_row_at : He.DefD := ⟨("Program", some "row_at"), "row_at", "Program.row_at", defArgs s_Program_row_at, defBody s_Program_row_at, defScope s_Program_row_at, [], []⟩
abbrev D_Program_with_row : He.DefD := ⟨("Program", some "with_row"), "with_row", "Program.with_row", defArgs s_Program_with_row, defBody s_Program_with_row, defScope s_Program_with_row, [], []⟩
abbrev D_names_of : He.DefD := ⟨("names_of", none), "names_of", "names_of", defArgs s_names_of, defBody s_names_of, defScope s_names_of, [], []⟩
abbrev D_check_parts : He.DefD := ⟨("check_parts", none), "check_parts", "check_parts", defArgs s_check_parts, defBody s_check_parts, defScope s_check_parts, [], []⟩
abbrev D_check_bodies : He.DefD := ⟨("check_bodies", none), "check_bodies", "check_bodies", defArgs s_check_bodies, defBody s_check_bodies, defScope s_check_bodies, [], []⟩
abbrev D_check_body : He.DefD := ⟨("check_body", none), "check_body", "check_body", defArgs s_check_body, defBody s_check_body, defScope s_check_body, [], []⟩
abbrev D_law_state : He.DefD := ⟨("_law_state", none), "_law_state", "_law_state", defArgs s_law_state, defBody s_law_state, defScope s_law_state, [], []⟩
abbrev D_law_draw : He.DefD := ⟨("_law_draw", none), "_law_draw", "_law_draw", defArgs s_law_draw, defBody s_law_draw, defScope s_law_draw, [], []⟩
abbrev D_law_names : He.DefD := ⟨("_law_names", none), "_law_names", "_law_names", defArgs s_law_names, defBody s_law_names, defScope s_law_names, [], []⟩
abbrev D_law_many : He.DefD := ⟨("_law_many", none), "_law_many", "_law_many", defArgs s_law_many, defBody s_law_many, defScope s_law_many, [], []⟩
abbrev D_law_row : He.DefD := ⟨("_law_row", none), "_law_row", "_law_row", defArgs s_law_row, defBody s_law_row, defScope s_law_row, [], []⟩
abbrev D_law_rows : He.DefD := ⟨("_law_rows", none), "_law_rows", "_law_rows", defArgs s_law_rows, defBody s_law_rows, defScope s_law_rows, [], []⟩
abbrev D_law_parts : He.DefD := ⟨("_law_parts", none), "_law_parts", "_law_parts", defArgs s_law_parts, defBody s_law_parts, defScope s_law_parts, [], []⟩
abbrev D_law_words : He.DefD := ⟨("_law_words", none), "_law_words", "_law_words", defArgs s_law_words, defBody s_law_words, defScope s_law_words, [], []⟩
abbrev D_law_true_rows : He.DefD := ⟨("_law_true_rows", none), "_law_true_rows", "_law_true_rows", defArgs s_law_true_rows, defBody s_law_true_rows, defScope s_law_true_rows, [], []⟩
abbrev D_law_true : He.DefD := ⟨("_law_true", none), "_law_true", "_law_true", defArgs s_law_true, defBody s_law_true, defScope s_law_true, [], []⟩
abbrev D_law_same : He.DefD := ⟨("_law_same", none), "_law_same", "_law_same", defArgs s_law_same, defBody s_law_same, defScope s_law_same, [], []⟩
abbrev D_law : He.DefD := ⟨("law", none), "law", "law", defArgs s_law, defBody s_law, defScope s_law, [], []⟩
def U_TrueRun_init : SupD := ⟨"TrueRun", "Record", "TrueRun.__init__", PySem.Challenge.pw_toldonward_k07_whole_runs_hang_on_their.main.file, defArgs s_TrueRun_init, defBody s_TrueRun_init, defScope s_TrueRun_init⟩
def us : List SupD := [U_TrueRun_init]
def fa0 : List He.Fa := [.glo "do_read", .glo "do_peek", .glo "do_put", .glo "do_write", .glo "do_say", .glo "do_rows", .glo "run_truly", .glo "is_start", .glo "check_start", .glo "known_words", .glo "true_run", .glo "is_name", .glo "are_names", .glo "are_named_pairs", .glo "is_read_row", .glo "is_put_row", .glo "is_if_row", .glo "is_slot_row", .glo "is_write_row", .glo "check_of", .glo "is_valid_row", .glo "first_wrong_path", .glo "paths_of_rows", .glo "names_of", .glo "check_parts", .glo "check_bodies", .glo "check_body", .glo "_law_state", .glo "_law_draw", .glo "_law_names"]
def fa1 : List He.Fa := [.glo "_law_many", .glo "_law_row", .glo "_law_rows", .glo "_law_parts", .glo "_law_words", .glo "_law_true_rows", .glo "_law_true", .glo "_law_same", .glo "law", .free "isinstance", .free "str", .free "tuple", .free "list", .free "len", .free "all", .free "set", .free "enumerate", .free "range", .free "abs", .free "int", .free "max", .free "dict", .free "zip", .int "LONGEST_NAME" 8, .int "MOST_ROWS" 16, .int "DEEPEST_IF" 3, .int "LEAST_WORDS" 2, .int "MOST_WORDS" 4, .int "LEAST_SOURCES" 1, .int "MOST_SOURCES" 4]
def fa2 : List He.Fa := [.int "MOST_DERIVED" 6, .int "MOST_EFFECTS" 4, .glo "ToldError", .glo "InvalidProgram", .glo "InvalidStart", .glo "UnknownCell", .glo "Record", .glo "TrueRun", .cls "TrueRun", .mkr "TrueRun", .noat "TrueRun" "default", .noat "TrueRun" "known", .noat "TrueRun" "slots", .noat "TrueRun" "noted", .noat "TrueRun" "peeked", .noat "TrueRun" "said", .noat "TrueRun" "written", .noat "TrueRun" "given", .meth "TrueRun" "word_in", .glo "Scope", .cls "Scope", .mkr "Scope", .noat "Scope" "kind", .noat "Scope" "words", .noat "Scope" "sources", .noat "Scope" "readable", .glo "Program", .cls "Program", .mkr "Program", .noat "Program" "words"]
def fa3 : List He.Fa := [.noat "Program" "sources", .noat "Program" "derived", .noat "Program" "effects", .noat "Program" "_derived_names", .noat "Program" "_effect_names", .meth "Program" "cells", .meth "Program" "derived_names", .meth "Program" "effect_names", .meth "Program" "body", .meth "Program" "row_paths", .meth "Program" "row_at", .meth "Program" "with_row", .meth "TrueRun" "parts", .glo "DERIVED_FORMS", .glo "EFFECT_FORMS", .glo "ACTIONS"]
def fa : List He.Fa := fa0 ++ (fa1 ++ (fa2 ++ (fa3)))
def fn0 : List He.DefD := [D_InvalidProgram_init, D_InvalidStart_init, D_UnknownCell_init, D_Record_init, D_Record_parts, D_TrueRun_word_in, D_do_read, D_do_peek, D_do_put, D_do_write, D_do_say, D_do_rows, D_run_truly, D_is_start, D_check_start, D_known_words, D_true_run, D_is_name, D_are_names, D_are_named_pairs, D_Scope_init, D_is_read_row, D_is_put_row, D_is_if_row, D_is_slot_row, D_is_write_row, D_check_of, D_is_valid_row, D_first_wrong_path, D_paths_of_rows]
def fn1 : List He.DefD := [D_Program_init, D_Program_eq, D_Program_cells, D_Program_derived_names, D_Program_effect_names, D_Program_body, D_Program_row_paths, D_Program_row_at, D_Program_with_row, D_names_of, D_check_parts, D_check_bodies, D_check_body, D_law_state, D_law_draw, D_law_names, D_law_many, D_law_row, D_law_rows, D_law_parts, D_law_words, D_law_true_rows, D_law_true, D_law_same, D_law]
def fn : List He.DefD := fn0 ++ (fn1)
def ts : List He.Tab := [(fun K => He.ga K "DERIVED_FORMS", ["read", "put", "if", "give"]), (fun K => He.ga K "EFFECT_FORMS", ["read", "peek", "put", "if", "write", "say"]), (fun K => He.ga K "ACTIONS", ["read", "peek", "put", "write", "say"])]
def vt : List (Str × List (Str × He.Dv)) := [("DERIVED_FORMS", [("read", He.Dv.glo "is_read_row"), ("put", He.Dv.glo "is_put_row"), ("if", He.Dv.glo "is_if_row"), ("give", He.Dv.glo "is_slot_row")]), ("EFFECT_FORMS", [("read", He.Dv.glo "is_read_row"), ("peek", He.Dv.glo "is_read_row"), ("put", He.Dv.glo "is_put_row"), ("if", He.Dv.glo "is_if_row"), ("write", He.Dv.glo "is_write_row"), ("say", He.Dv.glo "is_slot_row")]), ("ACTIONS", [("read", He.Dv.glo "do_read"), ("peek", He.Dv.glo "do_peek"), ("put", He.Dv.glo "do_put"), ("write", He.Dv.glo "do_write"), ("say", He.Dv.glo "do_say")])]
def ex (K : PySem.W.Frag) : Bool := vt.all fun t => He.valsB K (He.ga K t.1) t.2
theorem fun_of {K : PySem.W.Frag} {x qual : Str} {st : Stmt} {f : Addr} (h : ∃ fd, FunD K x qual (defArgs st) (defBody st) (defScope st) [] [] f fd) : ∃ fd, Fun K x qual st f fd := by
  obtain ⟨fd, F⟩ := h
  obtain ⟨oc, od, dV, kV, doc, pm, an, cdv, ct, osl, e, lk, hcd, hD, hK⟩ := F.ex
  rcases hD with ⟨_, rfl⟩ | ⟨z, _⟩
  · exact ⟨fd, ⟨oc, od, kV, doc, pm, an, cdv, ct, osl, e, lk, hcd⟩, F.kp⟩
  · exact absurd rfl z
theorem val_of {K : PySem.W.Frag} {t : Str × List (Str × He.Dv)} (h : He.valsB K (He.ga K t.1) t.2 = true) (q : Str × He.Dv) (hq : q ∈ t.2) : ∃ u, PySem.W.nsIn K (He.ga K t.1) q.1 = some (some u) ∧ RelV (q.2.v K) u := He.valsB_ok h hq
theorem kdct_of {K : PySem.W.Frag} {w : World} {a : Addr} {es : Array DictEntry} {n : Nat} {x : Str} {v : V} (l : K.lookup a = some ⟨.type "dict", none, .dict es n, #[]⟩) (y : PySem.W.KeysLit w.params es.toList) (h : ∃ u, PySem.W.nsIn K a x = some (some u) ∧ RelV v u) : KDct K w a x v := by
  obtain ⟨u, h1, h2⟩ := h
  exact ⟨es, n, u, l, y, h1, h2⟩
theorem law_binds {K : PySem.W.Frag} {x qual : Str} {st : Stmt} {f : Addr} {fd : FuncData} {ps : List Str} (F : Fun K x qual st f fd)
    (h : ∀ (kV doc pm : Value) (an : Option Addr) (cdv ct : Value) (us : List Value), us.length = ps.length → bindArgs (PySem.W.fnOf x qual (defArgs st) (defBody st) (defScope st) .none kV doc pm an cdv ct) ⟨us, []⟩ = pure (ps.zip us)) (s : Shared) (us : List Value) (hl : us.length = ps.length) : BindsTo s fd ⟨us, []⟩ (ps.zip us) := by
  obtain ⟨oc, od, kV, doc, pm, an, cdv, ct, osl, rfl, lk, hcd⟩ := F.ex
  exact .of_eq (h kV doc pm an cdv ct us hl)
theorem tops {w : World} {K : PySem.W.Frag} {h : Heap} {mg : Str → Option Value} (X : K.In h) (G : h.Ns mainGlobals mg) (c : SaysU fa fn ts us ex w K) : ∃ T : Tops w K mg, ∀ (s : Shared) (u : Value), BindsTo s T.d_law ⟨[u], []⟩ [("_law_script", u)] := by
  obtain ⟨d_InvalidProgram_init, F_InvalidProgram_init⟩ := fun_of (x := "__init__") (qual := "InvalidProgram.__init__") (st := s_InvalidProgram_init) (f := He.fAd K ("InvalidProgram", some "__init__")) (c.t.d.def_ 0 (d := D_InvalidProgram_init) rfl)
  obtain ⟨d_InvalidStart_init, F_InvalidStart_init⟩ := fun_of (x := "__init__") (qual := "InvalidStart.__init__") (st := s_InvalidStart_init) (f := He.fAd K ("InvalidStart", some "__init__")) (c.t.d.def_ 1 (d := D_InvalidStart_init) rfl)
  obtain ⟨d_UnknownCell_init, F_UnknownCell_init⟩ := fun_of (x := "__init__") (qual := "UnknownCell.__init__") (st := s_UnknownCell_init) (f := He.fAd K ("UnknownCell", some "__init__")) (c.t.d.def_ 2 (d := D_UnknownCell_init) rfl)
  obtain ⟨d_Record_init, F_Record_init⟩ := fun_of (x := "__init__") (qual := "Record.__init__") (st := s_Record_init) (f := He.fAd K ("Record", some "__init__")) (c.t.d.def_ 3 (d := D_Record_init) rfl)
  obtain ⟨d_Record_parts, F_Record_parts⟩ := fun_of (x := "parts") (qual := "Record.parts") (st := s_Record_parts) (f := He.fAd K ("TrueRun", some "parts")) (c.t.d.def_ 4 (d := D_Record_parts) rfl)
  obtain ⟨d_TrueRun_word_in, F_TrueRun_word_in⟩ := fun_of (x := "word_in") (qual := "TrueRun.word_in") (st := s_TrueRun_word_in) (f := He.fAd K ("TrueRun", some "word_in")) (c.t.d.def_ 5 (d := D_TrueRun_word_in) rfl)
  obtain ⟨d_do_read, F_do_read⟩ := fun_of (x := "do_read") (qual := "do_read") (st := s_do_read) (f := He.fAd K ("do_read", none)) (c.t.d.def_ 6 (d := D_do_read) rfl)
  obtain ⟨d_do_peek, F_do_peek⟩ := fun_of (x := "do_peek") (qual := "do_peek") (st := s_do_peek) (f := He.fAd K ("do_peek", none)) (c.t.d.def_ 7 (d := D_do_peek) rfl)
  obtain ⟨d_do_put, F_do_put⟩ := fun_of (x := "do_put") (qual := "do_put") (st := s_do_put) (f := He.fAd K ("do_put", none)) (c.t.d.def_ 8 (d := D_do_put) rfl)
  obtain ⟨d_do_write, F_do_write⟩ := fun_of (x := "do_write") (qual := "do_write") (st := s_do_write) (f := He.fAd K ("do_write", none)) (c.t.d.def_ 9 (d := D_do_write) rfl)
  obtain ⟨d_do_say, F_do_say⟩ := fun_of (x := "do_say") (qual := "do_say") (st := s_do_say) (f := He.fAd K ("do_say", none)) (c.t.d.def_ 10 (d := D_do_say) rfl)
  obtain ⟨d_do_rows, F_do_rows⟩ := fun_of (x := "do_rows") (qual := "do_rows") (st := s_do_rows) (f := He.fAd K ("do_rows", none)) (c.t.d.def_ 11 (d := D_do_rows) rfl)
  obtain ⟨d_run_truly, F_run_truly⟩ := fun_of (x := "run_truly") (qual := "run_truly") (st := s_run_truly) (f := He.fAd K ("run_truly", none)) (c.t.d.def_ 12 (d := D_run_truly) rfl)
  obtain ⟨d_is_start, F_is_start⟩ := fun_of (x := "is_start") (qual := "is_start") (st := s_is_start) (f := He.fAd K ("is_start", none)) (c.t.d.def_ 13 (d := D_is_start) rfl)
  obtain ⟨d_check_start, F_check_start⟩ := fun_of (x := "check_start") (qual := "check_start") (st := s_check_start) (f := He.fAd K ("check_start", none)) (c.t.d.def_ 14 (d := D_check_start) rfl)
  obtain ⟨d_known_words, F_known_words⟩ := fun_of (x := "known_words") (qual := "known_words") (st := s_known_words) (f := He.fAd K ("known_words", none)) (c.t.d.def_ 15 (d := D_known_words) rfl)
  obtain ⟨d_true_run, F_true_run⟩ := fun_of (x := "true_run") (qual := "true_run") (st := s_true_run) (f := He.fAd K ("true_run", none)) (c.t.d.def_ 16 (d := D_true_run) rfl)
  obtain ⟨d_is_name, F_is_name⟩ := fun_of (x := "is_name") (qual := "is_name") (st := s_is_name) (f := He.fAd K ("is_name", none)) (c.t.d.def_ 17 (d := D_is_name) rfl)
  obtain ⟨d_are_names, F_are_names⟩ := fun_of (x := "are_names") (qual := "are_names") (st := s_are_names) (f := He.fAd K ("are_names", none)) (c.t.d.def_ 18 (d := D_are_names) rfl)
  obtain ⟨d_are_named_pairs, F_are_named_pairs⟩ := fun_of (x := "are_named_pairs") (qual := "are_named_pairs") (st := s_are_named_pairs) (f := He.fAd K ("are_named_pairs", none)) (c.t.d.def_ 19 (d := D_are_named_pairs) rfl)
  obtain ⟨d_Scope_init, F_Scope_init⟩ := fun_of (x := "__init__") (qual := "Scope.__init__") (st := s_Scope_init) (f := He.fAd K ("Scope", some "__init__")) (c.t.d.def_ 20 (d := D_Scope_init) rfl)
  obtain ⟨d_is_read_row, F_is_read_row⟩ := fun_of (x := "is_read_row") (qual := "is_read_row") (st := s_is_read_row) (f := He.fAd K ("is_read_row", none)) (c.t.d.def_ 21 (d := D_is_read_row) rfl)
  obtain ⟨d_is_put_row, F_is_put_row⟩ := fun_of (x := "is_put_row") (qual := "is_put_row") (st := s_is_put_row) (f := He.fAd K ("is_put_row", none)) (c.t.d.def_ 22 (d := D_is_put_row) rfl)
  obtain ⟨d_is_if_row, F_is_if_row⟩ := fun_of (x := "is_if_row") (qual := "is_if_row") (st := s_is_if_row) (f := He.fAd K ("is_if_row", none)) (c.t.d.def_ 23 (d := D_is_if_row) rfl)
  obtain ⟨d_is_slot_row, F_is_slot_row⟩ := fun_of (x := "is_slot_row") (qual := "is_slot_row") (st := s_is_slot_row) (f := He.fAd K ("is_slot_row", none)) (c.t.d.def_ 24 (d := D_is_slot_row) rfl)
  obtain ⟨d_is_write_row, F_is_write_row⟩ := fun_of (x := "is_write_row") (qual := "is_write_row") (st := s_is_write_row) (f := He.fAd K ("is_write_row", none)) (c.t.d.def_ 25 (d := D_is_write_row) rfl)
  obtain ⟨d_check_of, F_check_of⟩ := fun_of (x := "check_of") (qual := "check_of") (st := s_check_of) (f := He.fAd K ("check_of", none)) (c.t.d.def_ 26 (d := D_check_of) rfl)
  obtain ⟨d_is_valid_row, F_is_valid_row⟩ := fun_of (x := "is_valid_row") (qual := "is_valid_row") (st := s_is_valid_row) (f := He.fAd K ("is_valid_row", none)) (c.t.d.def_ 27 (d := D_is_valid_row) rfl)
  obtain ⟨d_first_wrong_path, F_first_wrong_path⟩ := fun_of (x := "first_wrong_path") (qual := "first_wrong_path") (st := s_first_wrong_path) (f := He.fAd K ("first_wrong_path", none)) (c.t.d.def_ 28 (d := D_first_wrong_path) rfl)
  obtain ⟨d_paths_of_rows, F_paths_of_rows⟩ := fun_of (x := "paths_of_rows") (qual := "paths_of_rows") (st := s_paths_of_rows) (f := He.fAd K ("paths_of_rows", none)) (c.t.d.def_ 29 (d := D_paths_of_rows) rfl)
  obtain ⟨d_Program_init, F_Program_init⟩ := fun_of (x := "__init__") (qual := "Program.__init__") (st := s_Program_init) (f := He.fAd K ("Program", some "__init__")) (c.t.d.def_ 30 (d := D_Program_init) rfl)
  obtain ⟨d_Program_eq, F_Program_eq⟩ := fun_of (x := "__eq__") (qual := "Program.__eq__") (st := s_Program_eq) (f := He.fAd K ("Program", some "__eq__")) (c.t.d.def_ 31 (d := D_Program_eq) rfl)
  obtain ⟨d_Program_cells, F_Program_cells⟩ := fun_of (x := "cells") (qual := "Program.cells") (st := s_Program_cells) (f := He.fAd K ("Program", some "cells")) (c.t.d.def_ 32 (d := D_Program_cells) rfl)
  obtain ⟨d_Program_derived_names, F_Program_derived_names⟩ := fun_of (x := "derived_names") (qual := "Program.derived_names") (st := s_Program_derived_names) (f := He.fAd K ("Program", some "derived_names")) (c.t.d.def_ 33 (d := D_Program_derived_names) rfl)
  obtain ⟨d_Program_effect_names, F_Program_effect_names⟩ := fun_of (x := "effect_names") (qual := "Program.effect_names") (st := s_Program_effect_names) (f := He.fAd K ("Program", some "effect_names")) (c.t.d.def_ 34 (d := D_Program_effect_names) rfl)
  obtain ⟨d_Program_body, F_Program_body⟩ := fun_of (x := "body") (qual := "Program.body") (st := s_Program_body) (f := He.fAd K ("Program", some "body")) (c.t.d.def_ 35 (d := D_Program_body) rfl)
  obtain ⟨d_Program_row_paths, F_Program_row_paths⟩ := fun_of (x := "row_paths") (qual := "Program.row_paths") (st := s_Program_row_paths) (f := He.fAd K ("Program", some "row_paths")) (c.t.d.def_ 36 (d := D_Program_row_paths) rfl)
  obtain ⟨d_Program_row_at, F_Program_row_at⟩ := fun_of (x := "row_at") (qual := "Program.row_at") (st := s_Program_row_at) (f := He.fAd K ("Program", some "row_at")) (c.t.d.def_ 37 (d := D_Program_row_at) rfl)
  obtain ⟨d_Program_with_row, F_Program_with_row⟩ := fun_of (x := "with_row") (qual := "Program.with_row") (st := s_Program_with_row) (f := He.fAd K ("Program", some "with_row")) (c.t.d.def_ 38 (d := D_Program_with_row) rfl)
  obtain ⟨d_names_of, F_names_of⟩ := fun_of (x := "names_of") (qual := "names_of") (st := s_names_of) (f := He.fAd K ("names_of", none)) (c.t.d.def_ 39 (d := D_names_of) rfl)
  obtain ⟨d_check_parts, F_check_parts⟩ := fun_of (x := "check_parts") (qual := "check_parts") (st := s_check_parts) (f := He.fAd K ("check_parts", none)) (c.t.d.def_ 40 (d := D_check_parts) rfl)
  obtain ⟨d_check_bodies, F_check_bodies⟩ := fun_of (x := "check_bodies") (qual := "check_bodies") (st := s_check_bodies) (f := He.fAd K ("check_bodies", none)) (c.t.d.def_ 41 (d := D_check_bodies) rfl)
  obtain ⟨d_check_body, F_check_body⟩ := fun_of (x := "check_body") (qual := "check_body") (st := s_check_body) (f := He.fAd K ("check_body", none)) (c.t.d.def_ 42 (d := D_check_body) rfl)
  obtain ⟨d_law_state, F_law_state⟩ := fun_of (x := "_law_state") (qual := "_law_state") (st := s_law_state) (f := He.fAd K ("_law_state", none)) (c.t.d.def_ 43 (d := D_law_state) rfl)
  obtain ⟨d_law_draw, F_law_draw⟩ := fun_of (x := "_law_draw") (qual := "_law_draw") (st := s_law_draw) (f := He.fAd K ("_law_draw", none)) (c.t.d.def_ 44 (d := D_law_draw) rfl)
  obtain ⟨d_law_names, F_law_names⟩ := fun_of (x := "_law_names") (qual := "_law_names") (st := s_law_names) (f := He.fAd K ("_law_names", none)) (c.t.d.def_ 45 (d := D_law_names) rfl)
  obtain ⟨d_law_many, F_law_many⟩ := fun_of (x := "_law_many") (qual := "_law_many") (st := s_law_many) (f := He.fAd K ("_law_many", none)) (c.t.d.def_ 46 (d := D_law_many) rfl)
  obtain ⟨d_law_row, F_law_row⟩ := fun_of (x := "_law_row") (qual := "_law_row") (st := s_law_row) (f := He.fAd K ("_law_row", none)) (c.t.d.def_ 47 (d := D_law_row) rfl)
  obtain ⟨d_law_rows, F_law_rows⟩ := fun_of (x := "_law_rows") (qual := "_law_rows") (st := s_law_rows) (f := He.fAd K ("_law_rows", none)) (c.t.d.def_ 48 (d := D_law_rows) rfl)
  obtain ⟨d_law_parts, F_law_parts⟩ := fun_of (x := "_law_parts") (qual := "_law_parts") (st := s_law_parts) (f := He.fAd K ("_law_parts", none)) (c.t.d.def_ 49 (d := D_law_parts) rfl)
  obtain ⟨d_law_words, F_law_words⟩ := fun_of (x := "_law_words") (qual := "_law_words") (st := s_law_words) (f := He.fAd K ("_law_words", none)) (c.t.d.def_ 50 (d := D_law_words) rfl)
  obtain ⟨d_law_true_rows, F_law_true_rows⟩ := fun_of (x := "_law_true_rows") (qual := "_law_true_rows") (st := s_law_true_rows) (f := He.fAd K ("_law_true_rows", none)) (c.t.d.def_ 51 (d := D_law_true_rows) rfl)
  obtain ⟨d_law_true, F_law_true⟩ := fun_of (x := "_law_true") (qual := "_law_true") (st := s_law_true) (f := He.fAd K ("_law_true", none)) (c.t.d.def_ 52 (d := D_law_true) rfl)
  obtain ⟨d_law_same, F_law_same⟩ := fun_of (x := "_law_same") (qual := "_law_same") (st := s_law_same) (f := He.fAd K ("_law_same", none)) (c.t.d.def_ 53 (d := D_law_same) rfl)
  obtain ⟨d_law, F_law⟩ := fun_of (x := "law") (qual := "law") (st := s_law) (f := He.fAd K ("law", none)) (c.t.d.def_ 54 (d := D_law) rfl)
  obtain ⟨d_TrueRun_init, F_TrueRun_init⟩ := sup_of (P := PySem.Challenge.pw_toldonward_k07_whole_runs_hang_on_their) (d := U_TrueRun_init) (st := s_TrueRun_init) rfl rfl rfl (by kernel_rfl) (c.us U_TrueRun_init (by simp [us])).2 (c.us U_TrueRun_init (by simp [us])).1
  obtain ⟨u_LONGEST_NAME, e_LONGEST_NAME⟩ := He.int_ok X G (c.t.d.fact 53 (f := .int "LONGEST_NAME" 8) rfl)
  obtain ⟨u_MOST_ROWS, e_MOST_ROWS⟩ := He.int_ok X G (c.t.d.fact 54 (f := .int "MOST_ROWS" 16) rfl)
  obtain ⟨u_DEEPEST_IF, e_DEEPEST_IF⟩ := He.int_ok X G (c.t.d.fact 55 (f := .int "DEEPEST_IF" 3) rfl)
  obtain ⟨u_LEAST_WORDS, e_LEAST_WORDS⟩ := He.int_ok X G (c.t.d.fact 56 (f := .int "LEAST_WORDS" 2) rfl)
  obtain ⟨u_MOST_WORDS, e_MOST_WORDS⟩ := He.int_ok X G (c.t.d.fact 57 (f := .int "MOST_WORDS" 4) rfl)
  obtain ⟨u_LEAST_SOURCES, e_LEAST_SOURCES⟩ := He.int_ok X G (c.t.d.fact 58 (f := .int "LEAST_SOURCES" 1) rfl)
  obtain ⟨u_MOST_SOURCES, e_MOST_SOURCES⟩ := He.int_ok X G (c.t.d.fact 59 (f := .int "MOST_SOURCES" 4) rfl)
  obtain ⟨u_MOST_DERIVED, e_MOST_DERIVED⟩ := He.int_ok X G (c.t.d.fact 60 (f := .int "MOST_DERIVED" 6) rfl)
  obtain ⟨u_MOST_EFFECTS, e_MOST_EFFECTS⟩ := He.int_ok X G (c.t.d.fact 61 (f := .int "MOST_EFFECTS" 4) rfl)
  obtain ⟨es_DERIVED_FORMS, n_DERIVED_FORMS, L_DERIVED_FORMS, Y_DERIVED_FORMS, S_DERIVED_FORMS⟩ := c.t.tab 0 (t := (fun K => He.ga K "DERIVED_FORMS", ["read", "put", "if", "give"])) rfl
  have V_DERIVED_FORMS := val_of (List.all_eq_true.mp c.more (("DERIVED_FORMS" : Str), ([("read", He.Dv.glo "is_read_row"), ("put", He.Dv.glo "is_put_row"), ("if", He.Dv.glo "is_if_row"), ("give", He.Dv.glo "is_slot_row")] : List (Str × He.Dv))) (by simp [vt]))
  obtain ⟨es_EFFECT_FORMS, n_EFFECT_FORMS, L_EFFECT_FORMS, Y_EFFECT_FORMS, S_EFFECT_FORMS⟩ := c.t.tab 1 (t := (fun K => He.ga K "EFFECT_FORMS", ["read", "peek", "put", "if", "write", "say"])) rfl
  have V_EFFECT_FORMS := val_of (List.all_eq_true.mp c.more (("EFFECT_FORMS" : Str), ([("read", He.Dv.glo "is_read_row"), ("peek", He.Dv.glo "is_read_row"), ("put", He.Dv.glo "is_put_row"), ("if", He.Dv.glo "is_if_row"), ("write", He.Dv.glo "is_write_row"), ("say", He.Dv.glo "is_slot_row")] : List (Str × He.Dv))) (by simp [vt]))
  obtain ⟨es_ACTIONS, n_ACTIONS, L_ACTIONS, Y_ACTIONS, S_ACTIONS⟩ := c.t.tab 2 (t := (fun K => He.ga K "ACTIONS", ["read", "peek", "put", "write", "say"])) rfl
  have V_ACTIONS := val_of (List.all_eq_true.mp c.more (("ACTIONS" : Str), ([("read", He.Dv.glo "do_read"), ("peek", He.Dv.glo "do_peek"), ("put", He.Dv.glo "do_put"), ("write", He.Dv.glo "do_write"), ("say", He.Dv.glo "do_say")] : List (Str × He.Dv))) (by simp [vt]))
  exact ⟨{
    z_isinstance := He.free_ok X G (c.t.d.fact 39 (f := .free "isinstance") rfl)
    z_str := He.free_ok X G (c.t.d.fact 40 (f := .free "str") rfl)
    z_tuple := He.free_ok X G (c.t.d.fact 41 (f := .free "tuple") rfl)
    z_list := He.free_ok X G (c.t.d.fact 42 (f := .free "list") rfl)
    z_len := He.free_ok X G (c.t.d.fact 43 (f := .free "len") rfl)
    z_all := He.free_ok X G (c.t.d.fact 44 (f := .free "all") rfl)
    z_set := He.free_ok X G (c.t.d.fact 45 (f := .free "set") rfl)
    z_enumerate := He.free_ok X G (c.t.d.fact 46 (f := .free "enumerate") rfl)
    z_range := He.free_ok X G (c.t.d.fact 47 (f := .free "range") rfl)
    z_abs := He.free_ok X G (c.t.d.fact 48 (f := .free "abs") rfl)
    z_int := He.free_ok X G (c.t.d.fact 49 (f := .free "int") rfl)
    z_max := He.free_ok X G (c.t.d.fact 50 (f := .free "max") rfl)
    z_dict := He.free_ok X G (c.t.d.fact 51 (f := .free "dict") rfl)
    z_zip := He.free_ok X G (c.t.d.fact 52 (f := .free "zip") rfl)
    u_LONGEST_NAME := u_LONGEST_NAME
    c_LONGEST_NAME := e_LONGEST_NAME
    u_MOST_ROWS := u_MOST_ROWS
    c_MOST_ROWS := e_MOST_ROWS
    u_DEEPEST_IF := u_DEEPEST_IF
    c_DEEPEST_IF := e_DEEPEST_IF
    u_LEAST_WORDS := u_LEAST_WORDS
    c_LEAST_WORDS := e_LEAST_WORDS
    u_MOST_WORDS := u_MOST_WORDS
    c_MOST_WORDS := e_MOST_WORDS
    u_LEAST_SOURCES := u_LEAST_SOURCES
    c_LEAST_SOURCES := e_LEAST_SOURCES
    u_MOST_SOURCES := u_MOST_SOURCES
    c_MOST_SOURCES := e_MOST_SOURCES
    u_MOST_DERIVED := u_MOST_DERIVED
    c_MOST_DERIVED := e_MOST_DERIVED
    u_MOST_EFFECTS := u_MOST_EFFECTS
    c_MOST_EFFECTS := e_MOST_EFFECTS
    a_InvalidProgram_init := He.fAd K ("InvalidProgram", some "__init__")
    d_InvalidProgram_init := d_InvalidProgram_init
    F_InvalidProgram_init := F_InvalidProgram_init
    b_InvalidProgram_init := F_InvalidProgram_init.binds (ps := ["self", "part", "path"]) fun _ _ _ _ _ _ us hl => match us, hl with | [_, _, _], _ => rfl
    a_InvalidStart_init := He.fAd K ("InvalidStart", some "__init__")
    d_InvalidStart_init := d_InvalidStart_init
    F_InvalidStart_init := F_InvalidStart_init
    b_InvalidStart_init := F_InvalidStart_init.binds (ps := ["self", "words"]) fun _ _ _ _ _ _ us hl => match us, hl with | [_, _], _ => rfl
    a_UnknownCell_init := He.fAd K ("UnknownCell", some "__init__")
    d_UnknownCell_init := d_UnknownCell_init
    F_UnknownCell_init := F_UnknownCell_init
    b_UnknownCell_init := F_UnknownCell_init.binds (ps := ["self", "name"]) fun _ _ _ _ _ _ us hl => match us, hl with | [_, _], _ => rfl
    a_Record_init := He.fAd K ("Record", some "__init__")
    d_Record_init := d_Record_init
    F_Record_init := F_Record_init
    b_Record_init := F_Record_init.binds (ps := ["self"]) fun _ _ _ _ _ _ us hl => match us, hl with | [_], _ => rfl
    a_Record_parts := He.fAd K ("TrueRun", some "parts")
    d_Record_parts := d_Record_parts
    F_Record_parts := F_Record_parts
    b_Record_parts := F_Record_parts.binds (ps := ["self"]) fun _ _ _ _ _ _ us hl => match us, hl with | [_], _ => rfl
    a_TrueRun_init := He.fAd K ("TrueRun", some "__init__")
    d_TrueRun_init := d_TrueRun_init
    a_TrueRun_word_in := He.fAd K ("TrueRun", some "word_in")
    d_TrueRun_word_in := d_TrueRun_word_in
    F_TrueRun_word_in := F_TrueRun_word_in
    b_TrueRun_word_in := F_TrueRun_word_in.binds (ps := ["self", "slot"]) fun _ _ _ _ _ _ us hl => match us, hl with | [_, _], _ => rfl
    a_do_read := He.fAd K ("do_read", none)
    d_do_read := d_do_read
    F_do_read := F_do_read
    b_do_read := F_do_read.binds (ps := ["run", "row"]) fun _ _ _ _ _ _ us hl => match us, hl with | [_, _], _ => rfl
    m_do_read := He.glo_ok X G (c.t.d.fact 0 (f := .glo "do_read") rfl)
    a_do_peek := He.fAd K ("do_peek", none)
    d_do_peek := d_do_peek
    F_do_peek := F_do_peek
    b_do_peek := F_do_peek.binds (ps := ["run", "row"]) fun _ _ _ _ _ _ us hl => match us, hl with | [_, _], _ => rfl
    m_do_peek := He.glo_ok X G (c.t.d.fact 1 (f := .glo "do_peek") rfl)
    a_do_put := He.fAd K ("do_put", none)
    d_do_put := d_do_put
    F_do_put := F_do_put
    b_do_put := F_do_put.binds (ps := ["run", "row"]) fun _ _ _ _ _ _ us hl => match us, hl with | [_, _], _ => rfl
    m_do_put := He.glo_ok X G (c.t.d.fact 2 (f := .glo "do_put") rfl)
    a_do_write := He.fAd K ("do_write", none)
    d_do_write := d_do_write
    F_do_write := F_do_write
    b_do_write := F_do_write.binds (ps := ["run", "row"]) fun _ _ _ _ _ _ us hl => match us, hl with | [_, _], _ => rfl
    m_do_write := He.glo_ok X G (c.t.d.fact 3 (f := .glo "do_write") rfl)
    a_do_say := He.fAd K ("do_say", none)
    d_do_say := d_do_say
    F_do_say := F_do_say
    b_do_say := F_do_say.binds (ps := ["run", "row"]) fun _ _ _ _ _ _ us hl => match us, hl with | [_, _], _ => rfl
    m_do_say := He.glo_ok X G (c.t.d.fact 4 (f := .glo "do_say") rfl)
    a_do_rows := He.fAd K ("do_rows", none)
    d_do_rows := d_do_rows
    F_do_rows := F_do_rows
    b_do_rows := F_do_rows.binds (ps := ["run", "rows"]) fun _ _ _ _ _ _ us hl => match us, hl with | [_, _], _ => rfl
    m_do_rows := He.glo_ok X G (c.t.d.fact 5 (f := .glo "do_rows") rfl)
    a_run_truly := He.fAd K ("run_truly", none)
    d_run_truly := d_run_truly
    F_run_truly := F_run_truly
    b_run_truly := F_run_truly.binds (ps := ["program", "known", "rows"]) fun _ _ _ _ _ _ us hl => match us, hl with | [_, _, _], _ => rfl
    m_run_truly := He.glo_ok X G (c.t.d.fact 6 (f := .glo "run_truly") rfl)
    a_is_start := He.fAd K ("is_start", none)
    d_is_start := d_is_start
    F_is_start := F_is_start
    b_is_start := F_is_start.binds (ps := ["program", "words"]) fun _ _ _ _ _ _ us hl => match us, hl with | [_, _], _ => rfl
    m_is_start := He.glo_ok X G (c.t.d.fact 7 (f := .glo "is_start") rfl)
    a_check_start := He.fAd K ("check_start", none)
    d_check_start := d_check_start
    F_check_start := F_check_start
    b_check_start := F_check_start.binds (ps := ["program", "words"]) fun _ _ _ _ _ _ us hl => match us, hl with | [_, _], _ => rfl
    m_check_start := He.glo_ok X G (c.t.d.fact 8 (f := .glo "check_start") rfl)
    a_known_words := He.fAd K ("known_words", none)
    d_known_words := d_known_words
    F_known_words := F_known_words
    b_known_words := F_known_words.binds (ps := ["program", "words"]) fun _ _ _ _ _ _ us hl => match us, hl with | [_, _], _ => rfl
    m_known_words := He.glo_ok X G (c.t.d.fact 9 (f := .glo "known_words") rfl)
    a_true_run := He.fAd K ("true_run", none)
    d_true_run := d_true_run
    F_true_run := F_true_run
    b_true_run := F_true_run.binds (ps := ["program", "words", "name"]) fun _ _ _ _ _ _ us hl => match us, hl with | [_, _, _], _ => rfl
    m_true_run := He.glo_ok X G (c.t.d.fact 10 (f := .glo "true_run") rfl)
    a_is_name := He.fAd K ("is_name", none)
    d_is_name := d_is_name
    F_is_name := F_is_name
    b_is_name := F_is_name.binds (ps := ["value"]) fun _ _ _ _ _ _ us hl => match us, hl with | [_], _ => rfl
    m_is_name := He.glo_ok X G (c.t.d.fact 11 (f := .glo "is_name") rfl)
    a_are_names := He.fAd K ("are_names", none)
    d_are_names := d_are_names
    F_are_names := F_are_names
    b_are_names := F_are_names.binds (ps := ["value", "least", "most"]) fun _ _ _ _ _ _ us hl => match us, hl with | [_, _, _], _ => rfl
    m_are_names := He.glo_ok X G (c.t.d.fact 12 (f := .glo "are_names") rfl)
    a_are_named_pairs := He.fAd K ("are_named_pairs", none)
    d_are_named_pairs := d_are_named_pairs
    F_are_named_pairs := F_are_named_pairs
    b_are_named_pairs := F_are_named_pairs.binds (ps := ["value", "most", "taken"]) fun _ _ _ _ _ _ us hl => match us, hl with | [_, _, _], _ => rfl
    m_are_named_pairs := He.glo_ok X G (c.t.d.fact 13 (f := .glo "are_named_pairs") rfl)
    a_Scope_init := He.fAd K ("Scope", some "__init__")
    d_Scope_init := d_Scope_init
    F_Scope_init := F_Scope_init
    b_Scope_init := F_Scope_init.binds (ps := ["self", "kind", "words", "sources", "readable"]) fun _ _ _ _ _ _ us hl => match us, hl with | [_, _, _, _, _], _ => rfl
    a_is_read_row := He.fAd K ("is_read_row", none)
    d_is_read_row := d_is_read_row
    F_is_read_row := F_is_read_row
    b_is_read_row := F_is_read_row.binds (ps := ["row", "scope"]) fun _ _ _ _ _ _ us hl => match us, hl with | [_, _], _ => rfl
    m_is_read_row := He.glo_ok X G (c.t.d.fact 14 (f := .glo "is_read_row") rfl)
    a_is_put_row := He.fAd K ("is_put_row", none)
    d_is_put_row := d_is_put_row
    F_is_put_row := F_is_put_row
    b_is_put_row := F_is_put_row.binds (ps := ["row", "scope"]) fun _ _ _ _ _ _ us hl => match us, hl with | [_, _], _ => rfl
    m_is_put_row := He.glo_ok X G (c.t.d.fact 15 (f := .glo "is_put_row") rfl)
    a_is_if_row := He.fAd K ("is_if_row", none)
    d_is_if_row := d_is_if_row
    F_is_if_row := F_is_if_row
    b_is_if_row := F_is_if_row.binds (ps := ["row", "scope"]) fun _ _ _ _ _ _ us hl => match us, hl with | [_, _], _ => rfl
    m_is_if_row := He.glo_ok X G (c.t.d.fact 16 (f := .glo "is_if_row") rfl)
    a_is_slot_row := He.fAd K ("is_slot_row", none)
    d_is_slot_row := d_is_slot_row
    F_is_slot_row := F_is_slot_row
    b_is_slot_row := F_is_slot_row.binds (ps := ["row", "scope"]) fun _ _ _ _ _ _ us hl => match us, hl with | [_, _], _ => rfl
    m_is_slot_row := He.glo_ok X G (c.t.d.fact 17 (f := .glo "is_slot_row") rfl)
    a_is_write_row := He.fAd K ("is_write_row", none)
    d_is_write_row := d_is_write_row
    F_is_write_row := F_is_write_row
    b_is_write_row := F_is_write_row.binds (ps := ["row", "scope"]) fun _ _ _ _ _ _ us hl => match us, hl with | [_, _], _ => rfl
    m_is_write_row := He.glo_ok X G (c.t.d.fact 18 (f := .glo "is_write_row") rfl)
    a_check_of := He.fAd K ("check_of", none)
    d_check_of := d_check_of
    F_check_of := F_check_of
    b_check_of := F_check_of.binds (ps := ["kind", "form"]) fun _ _ _ _ _ _ us hl => match us, hl with | [_, _], _ => rfl
    m_check_of := He.glo_ok X G (c.t.d.fact 19 (f := .glo "check_of") rfl)
    a_is_valid_row := He.fAd K ("is_valid_row", none)
    d_is_valid_row := d_is_valid_row
    F_is_valid_row := F_is_valid_row
    b_is_valid_row := F_is_valid_row.binds (ps := ["row", "scope", "depth"]) fun _ _ _ _ _ _ us hl => match us, hl with | [_, _, _], _ => rfl
    m_is_valid_row := He.glo_ok X G (c.t.d.fact 20 (f := .glo "is_valid_row") rfl)
    a_first_wrong_path := He.fAd K ("first_wrong_path", none)
    d_first_wrong_path := d_first_wrong_path
    F_first_wrong_path := F_first_wrong_path
    b_first_wrong_path := F_first_wrong_path.binds (ps := ["rows", "scope", "base", "depth"]) fun _ _ _ _ _ _ us hl => match us, hl with | [_, _, _, _], _ => rfl
    m_first_wrong_path := He.glo_ok X G (c.t.d.fact 21 (f := .glo "first_wrong_path") rfl)
    a_paths_of_rows := He.fAd K ("paths_of_rows", none)
    d_paths_of_rows := d_paths_of_rows
    F_paths_of_rows := F_paths_of_rows
    b_paths_of_rows := F_paths_of_rows.binds (ps := ["rows", "base"]) fun _ _ _ _ _ _ us hl => match us, hl with | [_, _], _ => rfl
    m_paths_of_rows := He.glo_ok X G (c.t.d.fact 22 (f := .glo "paths_of_rows") rfl)
    a_Program_init := He.fAd K ("Program", some "__init__")
    d_Program_init := d_Program_init
    F_Program_init := F_Program_init
    b_Program_init := F_Program_init.binds (ps := ["self", "words", "sources", "derived", "effects"]) fun _ _ _ _ _ _ us hl => match us, hl with | [_, _, _, _, _], _ => rfl
    a_Program_eq := He.fAd K ("Program", some "__eq__")
    d_Program_eq := d_Program_eq
    F_Program_eq := F_Program_eq
    b_Program_eq := F_Program_eq.binds (ps := ["self", "other"]) fun _ _ _ _ _ _ us hl => match us, hl with | [_, _], _ => rfl
    a_Program_cells := He.fAd K ("Program", some "cells")
    d_Program_cells := d_Program_cells
    F_Program_cells := F_Program_cells
    b_Program_cells := F_Program_cells.binds (ps := ["self"]) fun _ _ _ _ _ _ us hl => match us, hl with | [_], _ => rfl
    a_Program_derived_names := He.fAd K ("Program", some "derived_names")
    d_Program_derived_names := d_Program_derived_names
    F_Program_derived_names := F_Program_derived_names
    b_Program_derived_names := F_Program_derived_names.binds (ps := ["self"]) fun _ _ _ _ _ _ us hl => match us, hl with | [_], _ => rfl
    a_Program_effect_names := He.fAd K ("Program", some "effect_names")
    d_Program_effect_names := d_Program_effect_names
    F_Program_effect_names := F_Program_effect_names
    b_Program_effect_names := F_Program_effect_names.binds (ps := ["self"]) fun _ _ _ _ _ _ us hl => match us, hl with | [_], _ => rfl
    a_Program_body := He.fAd K ("Program", some "body")
    d_Program_body := d_Program_body
    F_Program_body := F_Program_body
    b_Program_body := F_Program_body.binds (ps := ["self", "name"]) fun _ _ _ _ _ _ us hl => match us, hl with | [_, _], _ => rfl
    a_Program_row_paths := He.fAd K ("Program", some "row_paths")
    d_Program_row_paths := d_Program_row_paths
    F_Program_row_paths := F_Program_row_paths
    b_Program_row_paths := F_Program_row_paths.binds (ps := ["self"]) fun _ _ _ _ _ _ us hl => match us, hl with | [_], _ => rfl
    a_Program_row_at := He.fAd K ("Program", some "row_at")
    d_Program_row_at := d_Program_row_at
    F_Program_row_at := F_Program_row_at
    b_Program_row_at := F_Program_row_at.binds (ps := ["self", "path"]) fun _ _ _ _ _ _ us hl => match us, hl with | [_, _], _ => rfl
    a_Program_with_row := He.fAd K ("Program", some "with_row")
    d_Program_with_row := d_Program_with_row
    F_Program_with_row := F_Program_with_row
    b_Program_with_row := F_Program_with_row.binds (ps := ["self", "path", "row"]) fun _ _ _ _ _ _ us hl => match us, hl with | [_, _, _], _ => rfl
    a_names_of := He.fAd K ("names_of", none)
    d_names_of := d_names_of
    F_names_of := F_names_of
    b_names_of := F_names_of.binds (ps := ["pairs"]) fun _ _ _ _ _ _ us hl => match us, hl with | [_], _ => rfl
    m_names_of := He.glo_ok X G (c.t.d.fact 23 (f := .glo "names_of") rfl)
    a_check_parts := He.fAd K ("check_parts", none)
    d_check_parts := d_check_parts
    F_check_parts := F_check_parts
    b_check_parts := F_check_parts.binds (ps := ["words", "sources", "derived", "effects"]) fun _ _ _ _ _ _ us hl => match us, hl with | [_, _, _, _], _ => rfl
    m_check_parts := He.glo_ok X G (c.t.d.fact 24 (f := .glo "check_parts") rfl)
    a_check_bodies := He.fAd K ("check_bodies", none)
    d_check_bodies := d_check_bodies
    F_check_bodies := F_check_bodies
    b_check_bodies := F_check_bodies.binds (ps := ["words", "sources", "derived", "effects"]) fun _ _ _ _ _ _ us hl => match us, hl with | [_, _, _, _], _ => rfl
    m_check_bodies := He.glo_ok X G (c.t.d.fact 25 (f := .glo "check_bodies") rfl)
    a_check_body := He.fAd K ("check_body", none)
    d_check_body := d_check_body
    F_check_body := F_check_body
    b_check_body := F_check_body.binds (ps := ["rows", "scope", "index"]) fun _ _ _ _ _ _ us hl => match us, hl with | [_, _, _], _ => rfl
    m_check_body := He.glo_ok X G (c.t.d.fact 26 (f := .glo "check_body") rfl)
    a__law_state := He.fAd K ("_law_state", none)
    d__law_state := d_law_state
    F__law_state := F_law_state
    b__law_state := F_law_state.binds (ps := ["_law_script"]) fun _ _ _ _ _ _ us hl => match us, hl with | [_], _ => rfl
    m__law_state := He.glo_ok X G (c.t.d.fact 27 (f := .glo "_law_state") rfl)
    a__law_draw := He.fAd K ("_law_draw", none)
    d__law_draw := d_law_draw
    F__law_draw := F_law_draw
    b__law_draw := F_law_draw.binds (ps := ["_law_state_here", "_law_many_here"]) fun _ _ _ _ _ _ us hl => match us, hl with | [_, _], _ => rfl
    m__law_draw := He.glo_ok X G (c.t.d.fact 28 (f := .glo "_law_draw") rfl)
    a__law_names := He.fAd K ("_law_names", none)
    d__law_names := d_law_names
    F__law_names := F_law_names
    b__law_names := F_law_names.binds (ps := ["_law_state_here", "_law_many_here"]) fun _ _ _ _ _ _ us hl => match us, hl with | [_, _], _ => rfl
    m__law_names := He.glo_ok X G (c.t.d.fact 29 (f := .glo "_law_names") rfl)
    a__law_many := He.fAd K ("_law_many", none)
    d__law_many := d_law_many
    F__law_many := F_law_many
    b__law_many := F_law_many.binds (ps := ["_law_rows_here"]) fun _ _ _ _ _ _ us hl => match us, hl with | [_], _ => rfl
    m__law_many := He.glo_ok X G (c.t.d.fact 30 (f := .glo "_law_many") rfl)
    a__law_row := He.fAd K ("_law_row", none)
    d__law_row := d_law_row
    F__law_row := F_law_row
    b__law_row := F_law_row.binds (ps := ["_law_state_here", "_law_shape"]) fun _ _ _ _ _ _ us hl => match us, hl with | [_, _], _ => rfl
    m__law_row := He.glo_ok X G (c.t.d.fact 31 (f := .glo "_law_row") rfl)
    a__law_rows := He.fAd K ("_law_rows", none)
    d__law_rows := d_law_rows
    F__law_rows := F_law_rows
    b__law_rows := F_law_rows.binds (ps := ["_law_state_here", "_law_shape", "_law_depth", "_law_room"]) fun _ _ _ _ _ _ us hl => match us, hl with | [_, _, _, _], _ => rfl
    m__law_rows := He.glo_ok X G (c.t.d.fact 32 (f := .glo "_law_rows") rfl)
    a__law_parts := He.fAd K ("_law_parts", none)
    d__law_parts := d_law_parts
    F__law_parts := F_law_parts
    b__law_parts := F_law_parts.binds (ps := ["_law_state_here", "_law_sizes", "_law_peeks", "_law_writes"]) fun _ _ _ _ _ _ us hl => match us, hl with | [_, _, _, _], _ => rfl
    m__law_parts := He.glo_ok X G (c.t.d.fact 33 (f := .glo "_law_parts") rfl)
    a__law_words := He.fAd K ("_law_words", none)
    d__law_words := d_law_words
    F__law_words := F_law_words
    b__law_words := F_law_words.binds (ps := ["_law_state_here", "_law_parts_here"]) fun _ _ _ _ _ _ us hl => match us, hl with | [_, _], _ => rfl
    m__law_words := He.glo_ok X G (c.t.d.fact 34 (f := .glo "_law_words") rfl)
    a__law_true_rows := He.fAd K ("_law_true_rows", none)
    d__law_true_rows := d_law_true_rows
    F__law_true_rows := F_law_true_rows
    b__law_true_rows := F_law_true_rows.binds (ps := ["_law_rows_here", "_law_slots", "_law_told", "_law_default", "_law_record"]) fun _ _ _ _ _ _ us hl => match us, hl with | [_, _, _, _, _], _ => rfl
    m__law_true_rows := He.glo_ok X G (c.t.d.fact 35 (f := .glo "_law_true_rows") rfl)
    a__law_true := He.fAd K ("_law_true", none)
    d__law_true := d_law_true
    F__law_true := F_law_true
    b__law_true := F_law_true.binds (ps := ["_law_parts_here", "_law_words_here"]) fun _ _ _ _ _ _ us hl => match us, hl with | [_, _], _ => rfl
    m__law_true := He.glo_ok X G (c.t.d.fact 36 (f := .glo "_law_true") rfl)
    a__law_same := He.fAd K ("_law_same", none)
    d__law_same := d_law_same
    F__law_same := F_law_same
    b__law_same := F_law_same.binds (ps := ["_law_answer", "_law_told"]) fun _ _ _ _ _ _ us hl => match us, hl with | [_, _], _ => rfl
    m__law_same := He.glo_ok X G (c.t.d.fact 37 (f := .glo "_law_same") rfl)
    a_law := He.fAd K ("law", none)
    d_law := d_law
    F_law := F_law
    b_law := F_law.binds (ps := ["_law_script"]) fun _ _ _ _ _ _ us hl => match us, hl with | [_], _ => rfl
    m_law := He.glo_ok X G (c.t.d.fact 38 (f := .glo "law") rfl)
    c_ToldError := He.ga K "ToldError"
    m_ToldError := He.glo_ok X G (c.t.d.fact 62 (f := .glo "ToldError") rfl)
    c_InvalidProgram := He.ga K "InvalidProgram"
    m_InvalidProgram := He.glo_ok X G (c.t.d.fact 63 (f := .glo "InvalidProgram") rfl)
    c_InvalidStart := He.ga K "InvalidStart"
    m_InvalidStart := He.glo_ok X G (c.t.d.fact 64 (f := .glo "InvalidStart") rfl)
    c_UnknownCell := He.ga K "UnknownCell"
    m_UnknownCell := He.glo_ok X G (c.t.d.fact 65 (f := .glo "UnknownCell") rfl)
    c_Record := He.ga K "Record"
    m_Record := He.glo_ok X G (c.t.d.fact 66 (f := .glo "Record") rfl)
    c_TrueRun := He.ga K "TrueRun"
    m_TrueRun := He.glo_ok X G (c.t.d.fact 67 (f := .glo "TrueRun") rfl)
    l_TrueRun := He.cls_ok (c.t.d.fact 68 (f := .cls "TrueRun") rfl)
    k_TrueRun := He.mkr_ok (c.t.d.fact 69 (f := .mkr "TrueRun") rfl)
    n_TrueRun_default := He.noat_ok (c.t.d.fact 70 (f := .noat "TrueRun" "default") rfl)
    n_TrueRun_known := He.noat_ok (c.t.d.fact 71 (f := .noat "TrueRun" "known") rfl)
    n_TrueRun_slots := He.noat_ok (c.t.d.fact 72 (f := .noat "TrueRun" "slots") rfl)
    n_TrueRun_noted := He.noat_ok (c.t.d.fact 73 (f := .noat "TrueRun" "noted") rfl)
    n_TrueRun_peeked := He.noat_ok (c.t.d.fact 74 (f := .noat "TrueRun" "peeked") rfl)
    n_TrueRun_said := He.noat_ok (c.t.d.fact 75 (f := .noat "TrueRun" "said") rfl)
    n_TrueRun_written := He.noat_ok (c.t.d.fact 76 (f := .noat "TrueRun" "written") rfl)
    n_TrueRun_given := He.noat_ok (c.t.d.fact 77 (f := .noat "TrueRun" "given") rfl)
    t_TrueRun_word_in := He.meth_ok (c.t.d.fact 78 (f := .meth "TrueRun" "word_in") rfl)
    c_Scope := He.ga K "Scope"
    m_Scope := He.glo_ok X G (c.t.d.fact 79 (f := .glo "Scope") rfl)
    l_Scope := He.cls_ok (c.t.d.fact 80 (f := .cls "Scope") rfl)
    k_Scope := He.mkr_ok (c.t.d.fact 81 (f := .mkr "Scope") rfl)
    n_Scope_kind := He.noat_ok (c.t.d.fact 82 (f := .noat "Scope" "kind") rfl)
    n_Scope_words := He.noat_ok (c.t.d.fact 83 (f := .noat "Scope" "words") rfl)
    n_Scope_sources := He.noat_ok (c.t.d.fact 84 (f := .noat "Scope" "sources") rfl)
    n_Scope_readable := He.noat_ok (c.t.d.fact 85 (f := .noat "Scope" "readable") rfl)
    c_Program := He.ga K "Program"
    m_Program := He.glo_ok X G (c.t.d.fact 86 (f := .glo "Program") rfl)
    l_Program := He.cls_ok (c.t.d.fact 87 (f := .cls "Program") rfl)
    k_Program := He.mkr_ok (c.t.d.fact 88 (f := .mkr "Program") rfl)
    n_Program_words := He.noat_ok (c.t.d.fact 89 (f := .noat "Program" "words") rfl)
    n_Program_sources := He.noat_ok (c.t.d.fact 90 (f := .noat "Program" "sources") rfl)
    n_Program_derived := He.noat_ok (c.t.d.fact 91 (f := .noat "Program" "derived") rfl)
    n_Program_effects := He.noat_ok (c.t.d.fact 92 (f := .noat "Program" "effects") rfl)
    n_Program__derived_names := He.noat_ok (c.t.d.fact 93 (f := .noat "Program" "_derived_names") rfl)
    n_Program__effect_names := He.noat_ok (c.t.d.fact 94 (f := .noat "Program" "_effect_names") rfl)
    t_Program_cells := He.meth_ok (c.t.d.fact 95 (f := .meth "Program" "cells") rfl)
    t_Program_derived_names := He.meth_ok (c.t.d.fact 96 (f := .meth "Program" "derived_names") rfl)
    t_Program_effect_names := He.meth_ok (c.t.d.fact 97 (f := .meth "Program" "effect_names") rfl)
    t_Program_body := He.meth_ok (c.t.d.fact 98 (f := .meth "Program" "body") rfl)
    t_Program_row_paths := He.meth_ok (c.t.d.fact 99 (f := .meth "Program" "row_paths") rfl)
    t_Program_row_at := He.meth_ok (c.t.d.fact 100 (f := .meth "Program" "row_at") rfl)
    t_Program_with_row := He.meth_ok (c.t.d.fact 101 (f := .meth "Program" "with_row") rfl)
    F_TrueRun_init := F_TrueRun_init
    b_TrueRun_init := F_TrueRun_init.binds (ps := ["self", "default", "known"]) fun _ _ _ _ _ _ _ us hl => match us, hl with | [_, _, _], _ => rfl
    t_TrueRun_parts := He.meth_ok (c.t.d.fact 102 (f := .meth "TrueRun" "parts") rfl)
    a_DERIVED_FORMS := He.ga K "DERIVED_FORMS"
    c_DERIVED_FORMS := He.glo_ok X G (c.t.d.fact 103 (f := .glo "DERIVED_FORMS") rfl)
    w_DERIVED_FORMS := ⟨es_DERIVED_FORMS, n_DERIVED_FORMS, L_DERIVED_FORMS, Y_DERIVED_FORMS, S_DERIVED_FORMS⟩
    w_DERIVED_FORMS_read := kdct_of L_DERIVED_FORMS Y_DERIVED_FORMS (V_DERIVED_FORMS ("read", He.Dv.glo "is_read_row") (by simp))
    w_DERIVED_FORMS_put := kdct_of L_DERIVED_FORMS Y_DERIVED_FORMS (V_DERIVED_FORMS ("put", He.Dv.glo "is_put_row") (by simp))
    w_DERIVED_FORMS_if := kdct_of L_DERIVED_FORMS Y_DERIVED_FORMS (V_DERIVED_FORMS ("if", He.Dv.glo "is_if_row") (by simp))
    w_DERIVED_FORMS_give := kdct_of L_DERIVED_FORMS Y_DERIVED_FORMS (V_DERIVED_FORMS ("give", He.Dv.glo "is_slot_row") (by simp))
    a_EFFECT_FORMS := He.ga K "EFFECT_FORMS"
    c_EFFECT_FORMS := He.glo_ok X G (c.t.d.fact 104 (f := .glo "EFFECT_FORMS") rfl)
    w_EFFECT_FORMS := ⟨es_EFFECT_FORMS, n_EFFECT_FORMS, L_EFFECT_FORMS, Y_EFFECT_FORMS, S_EFFECT_FORMS⟩
    w_EFFECT_FORMS_read := kdct_of L_EFFECT_FORMS Y_EFFECT_FORMS (V_EFFECT_FORMS ("read", He.Dv.glo "is_read_row") (by simp))
    w_EFFECT_FORMS_peek := kdct_of L_EFFECT_FORMS Y_EFFECT_FORMS (V_EFFECT_FORMS ("peek", He.Dv.glo "is_read_row") (by simp))
    w_EFFECT_FORMS_put := kdct_of L_EFFECT_FORMS Y_EFFECT_FORMS (V_EFFECT_FORMS ("put", He.Dv.glo "is_put_row") (by simp))
    w_EFFECT_FORMS_if := kdct_of L_EFFECT_FORMS Y_EFFECT_FORMS (V_EFFECT_FORMS ("if", He.Dv.glo "is_if_row") (by simp))
    w_EFFECT_FORMS_write := kdct_of L_EFFECT_FORMS Y_EFFECT_FORMS (V_EFFECT_FORMS ("write", He.Dv.glo "is_write_row") (by simp))
    w_EFFECT_FORMS_say := kdct_of L_EFFECT_FORMS Y_EFFECT_FORMS (V_EFFECT_FORMS ("say", He.Dv.glo "is_slot_row") (by simp))
    a_ACTIONS := He.ga K "ACTIONS"
    c_ACTIONS := He.glo_ok X G (c.t.d.fact 105 (f := .glo "ACTIONS") rfl)
    w_ACTIONS := ⟨es_ACTIONS, n_ACTIONS, L_ACTIONS, Y_ACTIONS, S_ACTIONS⟩
    w_ACTIONS_read := kdct_of L_ACTIONS Y_ACTIONS (V_ACTIONS ("read", He.Dv.glo "do_read") (by simp))
    w_ACTIONS_peek := kdct_of L_ACTIONS Y_ACTIONS (V_ACTIONS ("peek", He.Dv.glo "do_peek") (by simp))
    w_ACTIONS_put := kdct_of L_ACTIONS Y_ACTIONS (V_ACTIONS ("put", He.Dv.glo "do_put") (by simp))
    w_ACTIONS_write := kdct_of L_ACTIONS Y_ACTIONS (V_ACTIONS ("write", He.Dv.glo "do_write") (by simp))
    w_ACTIONS_say := kdct_of L_ACTIONS Y_ACTIONS (V_ACTIONS ("say", He.Dv.glo "do_say") (by simp))
  }, fun s u => law_binds (ps := ["_law_script"]) F_law (fun _ _ _ _ _ _ us hl => match us, hl with | [_], _ => rfl) s [u] rfl⟩
abbrev R : PySem.W.OpenRow := PySem.W.OpenLaw.row PySem.Challenge.rw_toldonward_k07_whole_runs_hang_on_their
abbrev hk : PySem.W.Hook := hookU 5 fa fn ts us ex
def ob (s : PySem.W.SharedT) : AlU := obsU 5 fa fn ts us ex (HandSHeadRun.getT s)
theorem ob_eq (s : PySem.W.SharedT) : ob s = hk.obs s.abs := obsU_eq (HandSHeadRun.getT_eq s)
def loose0 : List Str := ["_wall", "ToldError", "InvalidProgram", "InvalidStart", "UnknownCell", "Record", "TrueRun", "do_read", "do_peek", "do_put", "do_write", "do_say", "ACTIONS", "do_rows", "run_truly", "is_start", "check_start", "known_words", "true_run", "LONGEST_NAME", "is_name", "are_names", "are_named_pairs", "MOST_ROWS", "DEEPEST_IF", "Scope", "is_read_row", "is_put_row", "is_if_row", "is_slot_row"]
def loose1 : List Str := ["is_write_row", "DERIVED_FORMS", "EFFECT_FORMS", "check_of", "is_valid_row", "first_wrong_path", "paths_of_rows", "LEAST_WORDS", "MOST_WORDS", "LEAST_SOURCES", "MOST_SOURCES", "MOST_DERIVED", "MOST_EFFECTS", "Program", "names_of", "check_parts", "check_bodies", "check_body", "_law_state", "_law_draw", "_law_names", "_law_many", "_law_row", "_law_rows", "_law_parts", "_law_words", "_law_true_rows", "_law_true", "_law_same"]
def loose : List Str := loose0 ++ (loose1)
end K07
namespace K07
open PySem PySem.Spec PyProof.Rows L2 Td
abbrev RunOk (w : World) : Prop := HandSHeadRun.RunEq R (PySem.W.view R.prog [66]) hk ob 8000 loose w
theorem run_f (w : World) : RunOk (w.withFollow "special-get-raises" false) := by
  intro os
  kernel_rfl
theorem run_t (w : World) : RunOk (w.withFollow "special-get-raises" true) := by
  intro os
  kernel_rfl
theorem run (w : World) : HandSHeadRun.RunEq R (PySem.W.view R.prog [66]) hk ob 8000 loose w := PySem.W.byRow2 "special-get-raises" (P := RunOk) run_f run_t w
end K07
open PySem PySem.W PySem.Calls PyProof.Rows
set_option maxRecDepth 100000 in
set_option maxHeartbeats 0 in
theorem PySem.Challenge.cw_toldonward_k07_whole_runs_hang_on_their_holds : PySem.Challenge.rw_toldonward_k07_whole_runs_hang_on_their.Holds := by
  w_on; o_law
  refine HandSHeadRun.head_any (r := OpenLaw.row PySem.Challenge.rw_toldonward_k07_whole_runs_hang_on_their) (q := view (OpenLaw.row PySem.Challenge.rw_toldonward_k07_whole_runs_hang_on_their).prog [66]) (H := K07.hk) (ob := K07.ob) (M := 8000) (loose := K07.loose) (d := HandSHeadRun.topDef (OpenLaw.row PySem.Challenge.rw_toldonward_k07_whole_runs_hang_on_their).prog 66) (kwd := []) K07.ob_eq
    (by kernel_rfl) (fun s => by kernel_rfl) K07.run (by kernel_rfl) (by kernel_rfl) (by kernel_rfl) (by rfl) (by first | assumption | decide +kernel) (by decide +kernel) ⟨rfl, rfl, rfl, rfl, rfl, by decide +kernel⟩ ?hw ?hc
  case hw => w_witness2
  case hc =>
    refine L2.walk_ofE (l := PySem.Challenge.rw_toldonward_k07_whole_runs_hang_on_their) (n := 63) (k := 12) (x := "_law_script") (CX := L2.CX0) rfl (by decide) (by kernel_rfl) ⟨rfl, by decide, by decide⟩ ?F (fun _ _ _ _ z => z)
    intro w mg fa h Y G hmg0
    obtain ⟨K, KX, c⟩ := Y
    have hmg : mg ("law" : PySem.Str) = some (.ref fa) := by
      have e : (HandSHeadRun.topDef (OpenLaw.row PySem.Challenge.rw_toldonward_k07_whole_runs_hang_on_their).prog 66).name = ("law" : PySem.Str) := by kernel_rfl
      rw [← e]
      exact hmg0
    obtain ⟨T, hb⟩ := K07.tops KX G c
    have e := hmg.symm.trans T.m_law
    cases e
    exact ⟨K, T.d_law, K07.spLaw K, KX, hb, fun H a ns hl _ hS => ⟨a, ns, rfl, hS, hl, fun _ => rfl⟩, fun base _ _ => K07.law_of T⟩
