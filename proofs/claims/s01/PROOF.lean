import PyProof.Rows.All
import Wide.All
import OpenK.AllK
import Wide.FinOn
import HandS.Base
import HandS.Call
import HandS.List
import HandS.TupSets
import HandS.Words
import HandS.WordsList
import HandS.Deep
import HandS.Conv
import Open.SpecLaws
import KE.OsGo
import HandS.ForSpec
import HandS.ForMost
import HandS.TryMany
import HandS.TupAny
import HandS.CallLocal
import KE.KDictKeyed
import KE.GoesEnum
import KE.GoesMore
import HandS.Zip
import HandS.WideBits
import HandS.Walk
import KE.OsArith
import KE.IntBitsLaws
import HandS.More
import HandS.Codes
import PySem.Challenge.RW_rulesfound_s01_answers
set_option Elab.async false
set_option linter.unusedVariables false
set_option linter.unusedSimpArgs false
set_option maxRecDepth 100000
set_option maxHeartbeats 4000000
/-! ## RFMin -/
/-! The least of several tuples of whole numbers: min(t, u), min(ts). The comparison reads the heap, so the walk carries what is to stand still. -/
namespace RF
open PySem PySem.Spec PyProof.Rows L2
/-- a comparison that is decided wherever the objects of kp stand -/
def CmpG (prog : Program) (w : World) (A : Around) (op : CmpOp) (kp : Addr → Obj → Prop) (P : Nat → Value → Prop) (bt : Nat → Nat → Bool) : Prop :=
  ∀ i j x y (s : Shared) (Q E : Value → Shared → Prop), (∀ b o, kp b o → s.heap.get? b = some o) → P i x → P j y → Q (.bool (bt i j)) s → wpAny (model prog w) A (richCompare op x y) Q E s
section
variable {prog : Program} {w : World} {A : Around} {R : Result → Shared → Prop} {I : Addr} {fp wr : List Addr} {n : Nat} {P : Nat → Value → Prop} {St : Nat → Heap → Prop} {kp : Addr → Obj → Prop}
theorem min_name : (toString "min" ++ toString ".loop" : String) = "min.loop" := by decide
theorem min_loopG (W : Walks prog w A.in1 I fp wr n P St) (bt : Nat → Nat → Bool) (cg : CmpG prog w A.in1 .Lt kp P bt) (S : Addr) (nS : S ∉ fp) (off : ∀ b o, kp b o → b ∉ wr ∧ b ≠ S) :
    ∀ (k j : Nat) (s : Shared) (x : Value) (c : Nat), n - (j + 1) = k → j + 1 ≤ n → St (j + 1) s.heap → P (argBest bt j) x → (∀ b o, kp b o → s.heap.get? b = some o) →
    s.heap.get? S = some { cls := .type "list", dict := none, data := .seq #[x, x] c, slots := #[] } →
    (∀ v g tk, P (argBest bt (n - 1)) v → (∀ b o, b ∉ wr → b ≠ S → s.heap.get? b = some o → g.get? b = some o) → R (.ok (.ret v)) { s with heap := g, toks := tk }) →
    codeAny (model prog w) A (.builtin "min.loop" ⟨[.ref I, .none, .ref S], []⟩) R s := by
  have nW : S ∉ wr := fun z => nS (W.sub _ z)
  intro k
  induction k with
  | zero =>
    intro j s x c e1 e2 st px kk hS fin
    have ej : j + 1 = n := by omega
    refine codeAny_builtin F.entry_min_loop ?_
    rw [Around.under_plainId F.plain_min_loop _]; show wpAny _ A.in1 (seqItems? (.ref S) >>= _) _ _ s
    refine wpAny_bind (wpAny_seqItems hS rfl ?_); show wpAny _ A.in1 (tryCatch (pyNext (.ref I)) _ >>= _) _ _ s
    refine wpAny_bind (wpAny_tryCatch (W.done s _ _ (ej ▸ st) fun g tk kg => ?_))
    have hS2 := kg S _ nW hS
    show wpAny _ A.in1 (updateSeq S (fun _ => #[]) >>= _) _ _ _; refine wpAny_bind ?_
    refine wpAny_updateSeq hS2 rfl (wpAny_bind (wpAny_letGo (wpAny_pure ?_)))
    exact fin x _ tk (by rw [← ej]; exact px) fun b o b1 b2 e => (Heap.get?_update_other _ _ (Ne.symm b2)).trans (kg b o b1 e)
  | succ k ih =>
    intro j s x c e1 e2 st px kk hS fin
    have lt : j + 1 < n := by omega
    refine codeAny_builtin F.entry_min_loop ?_
    rw [Around.under_plainId F.plain_min_loop _]; show wpAny _ A.in1 (seqItems? (.ref S) >>= _) _ _ s
    refine wpAny_bind (wpAny_seqItems hS rfl ?_); show wpAny _ A.in1 (tryCatch (pyNext (.ref I)) _ >>= _) _ _ s
    refine wpAny_bind (wpAny_tryCatch (W.item (j + 1) s _ _ lt st fun v g tk pv' st2 kg => ?_))
    have hS2 := kg S _ nW hS
    have kk2 : ∀ b o, kp b o → g.get? b = some o := fun b o z => kg b o (off b o z).1 (kk b o z)
    show wpAny _ A.in1 (tryCatch (holding [v, v] (richCompare .Lt v x >>= _)) _ >>= _) _ _ _
    refine wpAny_bind (wpAny_tryCatch (wpAny_holding (wpAny_bind (cg (j + 1) (argBest bt j) v x _ _ _ kk2 pv' px ?_))))
    refine wpAny_bind (wpAny_holding (wpAny_truthy_bool ?_)); refine wpAny_bind (wpAny_letGo (wpAny_pure ?_))
    cases hb : bt (j + 1) (argBest bt j) with
    | true =>
      simp only [if_true]; refine wpAny_bind ?_
      refine wpAny_updateSeq hS2 rfl (wpAny_bind (wpAny_letGo ?_)); rw [min_name]
      refine wpAny_pure ⟨plainId_quiet F.plain_min_loop _, ih (j + 1) _ v _ (by omega) lt (W.frame _ _ _ st2 fun b hf o e => ?_) (by simp only [argBest, hb, if_true]; exact pv') (fun b o z => ?_) (Heap.get?_update_self _ hS2 rfl) fun v2 g2 tk2 p2 k2 => ?_⟩
      · exact (Heap.get?_update_other _ _ (fun z : S = b => nS (by rw [z]; exact hf))).trans e
      · exact (Heap.get?_update_other _ _ (Ne.symm (off b o z).2)).trans (kk2 b o z)
      · exact fin v2 g2 tk2 p2 fun b o b1 b2 e => k2 b o b1 b2 ((Heap.get?_update_other _ _ (Ne.symm b2)).trans (kg b o b1 e))
    | false =>
      simp only [Bool.false_eq_true, if_false]; refine wpAny_bind (wpAny_letGo ?_); rw [min_name]
      refine wpAny_pure ⟨plainId_quiet F.plain_min_loop _, ih (j + 1) _ x c (by omega) lt st2 (by simp only [argBest, hb, Bool.false_eq_true, if_false]; exact px) kk2 hS2 fun v2 g2 tk2 p2 k2 => ?_⟩
      exact fin v2 g2 tk2 p2 fun b o b1 b2 e => k2 b o b1 b2 (kg b o b1 e)
theorem min_firstG (W : Walks prog w A.in1 I fp wr n P St) (bt : Nat → Nat → Bool) (cg : CmpG prog w A.in1 .Lt kp P bt) (S : Addr) (nS : S ∉ fp) (off : ∀ b o, kp b o → b ∉ wr ∧ b ≠ S) (pos : 0 < n) {s : Shared} {c : Nat} (st : St 0 s.heap)
    (kk : ∀ b o, kp b o → s.heap.get? b = some o) (hS : s.heap.get? S = some { cls := .type "list", dict := none, data := .seq #[] c, slots := #[] })
    (fin : ∀ v g tk, P (argBest bt (n - 1)) v → (∀ b o, b ∉ wr → b ≠ S → s.heap.get? b = some o → g.get? b = some o) → R (.ok (.ret v)) { s with heap := g, toks := tk }) :
    codeAny (model prog w) A (.builtin "min.loop" ⟨[.ref I, .none, .ref S], []⟩) R s := by
  have nW : S ∉ wr := fun z => nS (W.sub _ z)
  refine codeAny_builtin F.entry_min_loop ?_
  rw [Around.under_plainId F.plain_min_loop _]; show wpAny _ A.in1 (seqItems? (.ref S) >>= _) _ _ s
  refine wpAny_bind (wpAny_seqItems hS rfl ?_); show wpAny _ A.in1 (tryCatch (pyNext (.ref I)) _ >>= _) _ _ s
  refine wpAny_bind (wpAny_tryCatch (W.item 0 s _ _ pos st fun v g tk pv' st2 kg => ?_))
  have hS2 := kg S _ nW hS
  show wpAny _ A.in1 (updateSeq S (fun _ => #[v, v]) >>= _) _ _ _; refine wpAny_bind ?_
  refine wpAny_updateSeq hS2 rfl ?_; rw [min_name]
  refine wpAny_pure ⟨plainId_quiet F.plain_min_loop _, min_loopG W bt cg S nS off _ 0 _ v _ rfl pos (W.frame _ _ _ st2 fun b hf o e => ?_) pv' (fun b o z => ?_) (Heap.get?_update_self _ hS2 rfl) fun v2 g2 tk2 p2 k2 => ?_⟩
  · exact (Heap.get?_update_other _ _ (fun z : S = b => nS (by rw [z]; exact hf))).trans e
  · exact (Heap.get?_update_other _ _ (Ne.symm (off b o z).2)).trans (kg b o (off b o z).1 (kk b o z))
  · exact fin v2 g2 tk2 p2 fun b o b1 b2 e => k2 b o b1 b2 ((Heap.get?_update_other _ _ (Ne.symm b2)).trans (kg b o b1 e))
end
section
variable {prog : Program} {w : World} {A : Around} {E : Value → Shared → Prop} {s : Shared}
/-- min(x) of what is walked -/
theorem min_walkG {x : Value} {Q : Value → Shared → Prop}
    (h : wpAny (model prog w) A.in1 (pyIter x) (fun it s2 => ∃ (I : Addr) (fp wr : List Addr) (n : Nat) (P : Nat → Value → Prop) (St : Nat → Heap → Prop) (bt : Nat → Nat → Bool) (kp : Addr → Obj → Prop), it = .ref I ∧ Walks prog w A.in1 I fp wr n P St ∧ St 0 s2.heap ∧
      (∀ b ∈ fp, b < s2.heap.objs.size) ∧ 0 < n ∧ CmpG prog w A.in1 .Lt kp P bt ∧ (∀ b o, kp b o → b ∉ wr ∧ s2.heap.get? b = some o) ∧
      ∀ v g tk, P (argBest bt (n - 1)) v → (∀ b o, b ∉ wr → s2.heap.get? b = some o → g.get? b = some o) → Q v { s2 with heap := g, toks := tk }) E s) :
    wpAny (model prog w) A (call (.builtin "min") [x]) Q E s := by
  refine call_function_tree F.kind_min F.plain_min F.entry_min (F.args_min1 _) ?_
  refine wpAny_bind (wpAny_of_eq (show Builtin.Builtins.bindParams "min" ["key", "default"] 0 ⟨[], []⟩ = pure [none, none] from rfl) (wpAny_bind (wpAny_pure ?_)))
  refine wpAny_bind (wpAny_mono h (fun it s2 z => ?_) fun _ _ e => e)
  obtain ⟨I, fp, wr, n, P, St, bt, kp, rfl, W, st, low, pos, cg, kk, fin⟩ := z
  refine wpAny_bind (wpAny_newObj_type ?_)
  have nS : s2.heap.objs.size ∉ fp := fun m => Nat.lt_irrefl _ (low _ m)
  rw [min_name]
  refine wpAny_pure ⟨plainId_quiet F.plain_min_loop _, min_firstG W bt cg s2.heap.objs.size nS (fun b o z => ⟨(kk b o z).1, Nat.ne_of_lt (Heap.lt_size (kk b o z).2)⟩) pos (W.frame _ _ _ st fun b _ o e => Heap.get?_push_of_some _ e)
    (fun b o z => Heap.get?_push_of_some _ (kk b o z).2) (Heap.get?_push_size _ rfl) fun v g tk p k => ?_⟩
  exact fin v g tk p fun b o b1 e => k b o b1 (Nat.ne_of_lt (Heap.lt_size e)) (Heap.get?_push_of_some _ e)
/-- min(a, b) -/
theorem min_twoG {a b : Value} {Q : Value → Shared → Prop}
    (h : wpAny (model prog w) A.in1 (pyIter (.ref s.heap.objs.size)) (fun it s2 => ∃ (I : Addr) (fp wr : List Addr) (n : Nat) (P : Nat → Value → Prop) (St : Nat → Heap → Prop) (bt : Nat → Nat → Bool) (kp : Addr → Obj → Prop), it = .ref I ∧ Walks prog w A.in1 I fp wr n P St ∧ St 0 s2.heap ∧
      (∀ b ∈ fp, b < s2.heap.objs.size) ∧ 0 < n ∧ CmpG prog w A.in1 .Lt kp P bt ∧ (∀ b o, kp b o → b ∉ wr ∧ s2.heap.get? b = some o) ∧
      ∀ v g tk, P (argBest bt (n - 1)) v → (∀ b o, b ∉ wr → s2.heap.get? b = some o → g.get? b = some o) → Q v { s2 with heap := g, toks := tk }) E { s with heap := s.heap.push { cls := .type "tuple", data := .seq #[a, b] } }) :
    wpAny (model prog w) A (call (.builtin "min") [a, b]) Q E s := by
  refine call_function_tree F.kind_min F.plain_min F.entry_min (F.args_min2 _ _) ?_
  refine wpAny_bind (wpAny_of_eq (show Builtin.Builtins.bindParams "min" ["key", "default"] 0 ⟨[], []⟩ = pure [none, none] from rfl) ?_)
  show wpAny _ A.in1 (newTuple [a, b] >>= _) _ _ s; refine wpAny_bind (wpAny_newObj_type ?_)
  refine wpAny_bind (wpAny_mono h (fun it s2 z => ?_) fun _ _ e => e)
  obtain ⟨I, fp, wr, n, P, St, bt, kp, rfl, W, st, low, pos, cg, kk, fin⟩ := z
  refine wpAny_bind (wpAny_newObj_type ?_)
  have nS : s2.heap.objs.size ∉ fp := fun m => Nat.lt_irrefl _ (low _ m)
  rw [min_name]
  refine wpAny_pure ⟨plainId_quiet F.plain_min_loop _, min_firstG W bt cg s2.heap.objs.size nS (fun b o z => ⟨(kk b o z).1, Nat.ne_of_lt (Heap.lt_size (kk b o z).2)⟩) pos (W.frame _ _ _ st fun b _ o e => Heap.get?_push_of_some _ e)
    (fun b o z => Heap.get?_push_of_some _ (kk b o z).2) (Heap.get?_push_size _ rfl) fun v g tk p k => ?_⟩
  exact fin v g tk p fun b o b1 e => k b o b1 (Nat.ne_of_lt (Heap.lt_size e)) (Heap.get?_push_of_some _ e)
end
end RF

/-! ## RFTup -/
/-! Tuples of whole numbers as values: lists of them, the least of them. -/
namespace RF
open PySem PySem.Spec PyProof.Rows L2
/-- the lesser of two, the first where they are alike -/
def min2 (a b : List Int) : List Int := if HT.lexLt b a then b else a
def leastOf : List (List Int) → List Int
  | [] => []
  | x :: r => r.foldl min2 x
/-- addresses with what stands there -/
abbrev LA := List (Addr × List Int)
def refs (L : LA) : List V := L.map fun p => V.ref p.1
def Tups (H : Hp) (L : LA) : Prop := ∀ p ∈ L, H p.1 = some (.tup (p.2.map V.int))
theorem same_tup {K : PySem.W.Frag} {H H' : Hp} {a : Addr} {xs : List V} (e : Same H H') (h : SqT K H a xs) : SqT K H' a xs := by
  rcases h with (h | ⟨o, h⟩) | h
  · exact .inl (.inl (e _ _ h))
  · exact .inl (.inr ⟨o, e _ _ h⟩)
  · exact .inr h
theorem Tups.same {H H' : Hp} {L : LA} (h : Tups H L) (e : Same H H') : Tups H' L := fun p m => e _ _ (h p m)
theorem same_new {H : Hp} {p : Addr} {o : HO} (h : H p = none) : Same H (upd H p o) := fun b ob e => by
  rw [upd_ne (fun z => by rw [z, h] at e; cases e)]
  exact e
theorem refs_vals : ∀ {L : LA} {us : List Value}, Vals (refs L) us → us = L.map fun p => Value.ref p.1
  | [], _, .nil => rfl
  | (a, ns) :: L, _ :: us, .cons r t => by
    cases r
    rw [refs_vals (L := L) t]
    rfl
theorem argBest_least (nss : List (List Int)) : ∀ k, k < nss.length → nss.getD (argBest (fun i j => HT.lexLt (nss.getD i []) (nss.getD j [])) k) [] = leastOf (nss.take (k + 1)) ∧ argBest (fun i j => HT.lexLt (nss.getD i []) (nss.getD j [])) k ≤ k
  | 0, h => by
    cases nss with
    | nil => cases h
    | cons x r => exact ⟨rfl, Nat.le_refl _⟩
  | k + 1, h => by
    obtain ⟨e, le⟩ := argBest_least nss k (by omega)
    have t : nss.take (k + 1 + 1) = nss.take (k + 1) ++ [nss.getD (k + 1) []] := by
      rw [List.take_succ_eq_append_getElem h, List.getD_eq_getElem?_getD, List.getElem?_eq_getElem h] <;> rfl
    have f : leastOf (nss.take (k + 1 + 1)) = min2 (leastOf (nss.take (k + 1))) (nss.getD (k + 1) []) := by
      rw [t]
      cases nss with
      | nil => cases h
      | cons x r => show List.foldl min2 x (r.take k ++ [_]) = _; rw [List.foldl_append]; rfl
    rw [f, ← e]
    unfold min2
    cases hb : HT.lexLt (nss.getD (k + 1) []) (nss.getD (argBest (fun i j => HT.lexLt (nss.getD i []) (nss.getD j [])) k) []) with
    | true =>
      have z : argBest (fun i j => HT.lexLt (nss.getD i []) (nss.getD j [])) (k + 1) = k + 1 := if_pos hb
      rw [z]
      exact ⟨by rw [if_pos rfl], Nat.le_refl _⟩
    | false =>
      have z : argBest (fun i j => HT.lexLt (nss.getD i []) (nss.getD j [])) (k + 1) = argBest (fun i j => HT.lexLt (nss.getD i []) (nss.getD j [])) k := if_neg fun z => Bool.false_ne_true (hb.symm.trans z)
      rw [z]
      exact ⟨by rw [if_neg Bool.false_ne_true], Nat.le_succ_of_le le⟩
section
variable {X : Cx}
theorem tup_ints {pins : List (Addr × Obj)} {σ : L2.St} {H : Hp} {s : Shared} (I : Inv X pins σ H s) {a : Addr} {ns : List Int} (h : SqT X.K H a (ns.map V.int)) : ∃ its : Array Value, IsTup s.heap a its ∧ IntsAre its.toList ns := by
  obtain ⟨its, r, p, _⟩ := I.tuple h
  exact ⟨its.toArray, p, intsAre_of r⟩
theorem tup_cmp {pins : List (Addr × Obj)} {σ : L2.St} {H : Hp} {s : Shared} (I : Inv X pins σ H s) {L : LA} (hL : Tups H L) (hu : X.A.in1.units < cLine) :
    CmpG X.prog X.w X.A.in1 .Lt (fun b o => s.heap.get? b = some o) (fun i v => (L.map fun p => Value.ref p.1).toArray[i]? = some v) (fun i j => HT.lexLt ((L.map (·.2)).getD i []) ((L.map (·.2)).getD j [])) := by
  intro i j x y s2 Q E kk hx hy q
  rw [List.getElem?_toArray, List.getElem?_map] at hx hy
  obtain ⟨p, hp, rfl⟩ := Option.map_eq_some_iff.mp hx
  obtain ⟨r, hr, rfl⟩ := Option.map_eq_some_iff.mp hy
  obtain ⟨i1, ⟨o1, g1, c1⟩, n1⟩ := tup_ints I (SqT.of (hL p (List.mem_of_getElem? hp)))
  obtain ⟨i2, ⟨o2, g2, c2⟩, n2⟩ := tup_ints I (SqT.of (hL r (List.mem_of_getElem? hr)))
  have e1 : (L.map (·.2)).getD i [] = p.2 := by rw [List.getD_eq_getElem?_getD, List.getElem?_map, hp] <;> rfl
  have e2 : (L.map (·.2)).getD j [] = r.2 := by rw [List.getD_eq_getElem?_getD, List.getElem?_map, hr] <;> rfl
  have q : Q (.bool (HT.lexLt ((L.map (·.2)).getD i []) ((L.map (·.2)).getD j []))) s2 := q
  rw [e1, e2] at q
  exact HT.lt_tupInts (items := i1) (items2 := i2) ⟨o1, kk _ _ g1, c1⟩ ⟨o2, kk _ _ g2, c2⟩ n1 n2 hu q
/-- min(ts), ts a list of tuples -/
def rMinT (K : PySem.W.Frag) : List V → Hp → VK → Prop := fun vs H Q => ∃ (a : Addr) (L : LA), vs = [V.ref a] ∧ SqL K H a (refs L) ∧ Tups H L ∧ L ≠ [] ∧ ∀ p ∈ L, p.2 = leastOf (L.map (·.2)) → Q (.ref p.1) H
theorem cr_minT (hc : X.calm = true) (hu : X.A.in1.units < cLine) : CallR X (.builtin "min") (rMinT X.K) := by
  intro pins s σ H vs us Q I r h
  obtain ⟨a, L, rfl, hs, hL, ne, q⟩ := h
  obtain ⟨its, rv, hl, _⟩ := I.list hs
  have ei := refs_vals rv
  subst ei
  rw [Vals.ref1 r]
  have hlt : a < s.heap.objs.size := by
    obtain ⟨o, _, e, _⟩ := hl
    exact Heap.lt_size e
  have lp : 0 < L.length := List.length_pos_iff.mpr ne
  refine min_walkG (wpAny_pyIter_list hl.isList ?_)
  refine ⟨_, _, _, _, _, _, _, _, rfl, Walks.list (A := X.A.in1) (I.ok.hd hc) s.heap.objs.size a (Nat.ne_of_lt hlt) _, ⟨⟨_, Heap.get?_push_size _ rfl, rfl, rfl⟩, hl.isList.push _⟩, fun b hb => ?_, by simpa using lp, tup_cmp I hL hu, fun b o e => ⟨fun m => ?_, Heap.get?_push_of_some _ e⟩, fun v g tk hP hk => ?_⟩
  · show b < (s.heap.push _).objs.size
    rw [Heap.size_push]
    rcases List.mem_cons.mp hb with e | hb
    · rw [e]; exact Nat.lt_succ_self _
    · rw [List.mem_singleton.mp hb]; exact Nat.lt_succ_of_lt hlt
  · have e1 : b = s.heap.objs.size := List.mem_singleton.mp m
    have e2 := Heap.lt_size e
    rw [e1] at e2
    exact absurd e2 (Nat.lt_irrefl _)
  · have sz : (L.map fun p => Value.ref p.1).toArray.size = L.length := by simp
    rw [sz, List.getElem?_toArray, List.getElem?_map] at hP
    obtain ⟨p, hp, rfl⟩ := Option.map_eq_some_iff.mp hP
    have best := (argBest_least (L.map (·.2)) (L.length - 1) (by rw [List.length_map]; omega)).1
    rw [List.take_of_length_le (by rw [List.length_map]; omega), List.getD_eq_getElem?_getD, List.getElem?_map, hp] at best
    refine ⟨.ref p.1, H, I.kept (t' := tk) fun b o e => hk b o (fun m => ?_) (Heap.get?_push_of_some _ e), rfl, q p (List.mem_of_getElem? hp) best⟩
    have e1 : b = s.heap.objs.size := List.mem_singleton.mp m
    have e2 := Heap.lt_size e
    rw [e1] at e2
    exact absurd e2 (Nat.lt_irrefl _)
/-- min(t, u) of two tuples -/
def rMin2T : List V → Hp → VK → Prop := fun vs H Q => ∃ (a b : Addr) (ns ms : List Int), vs = [V.ref a, V.ref b] ∧ H a = some (.tup (ns.map V.int)) ∧ H b = some (.tup (ms.map V.int)) ∧ ∀ p ∈ [(a, ns), (b, ms)], p.2 = min2 ns ms → Q (.ref p.1) H
theorem cr_min2T (hc : X.calm = true) (hu : X.A.in1.units < cLine) : CallR X (.builtin "min") rMin2T := by
  intro pins s σ H vs us Q I r h
  obtain ⟨a, b, ns, ms, rfl, ha, hb, q⟩ := h
  obtain ⟨u, v, rfl, r1, r2⟩ := vals2 r
  cases r1
  cases r2
  have hL : Tups H [(a, ns), (b, ms)] := fun p m => by
    rcases List.mem_cons.mp m with rfl | m
    · exact ha
    · rw [List.mem_singleton.mp m]; exact hb
  have hT : (s.heap.push { cls := .type "tuple", data := .seq #[.ref a, .ref b] }).IsTuple s.heap.objs.size #[.ref a, .ref b] := ⟨_, Heap.get?_push_size _ rfl, rfl, 0, rfl⟩
  have hz : (s.heap.push { cls := .type "tuple", data := .seq #[.ref a, .ref b] }).objs.size = s.heap.objs.size + 1 := Heap.size_push ..
  refine min_twoG (wpAny_pyIter_tuple hT ?_)
  refine ⟨_, _, _, _, _, _, _, _, rfl, Walks.tuple (A := X.A.in1) (I.ok.hd hc) _ s.heap.objs.size (by rw [hz]; exact Nat.ne_of_lt (Nat.lt_succ_self _)) _, ⟨⟨_, Heap.get?_push_size _ rfl, rfl, rfl⟩, hT.push _⟩, fun d m => ?_, Nat.succ_pos 1, tup_cmp I hL hu, fun d o e => ⟨fun m => ?_, Heap.get?_push_of_some _ (Heap.get?_push_of_some _ e)⟩, fun v g tk hP hk => ?_⟩
  · show d < ((s.heap.push _).push _).objs.size
    rw [Heap.size_push, hz]
    rcases List.mem_cons.mp m with e | m
    · rw [e, hz]; exact Nat.lt_succ_self _
    · rw [List.mem_singleton.mp m]; exact Nat.lt_succ_of_lt (Nat.lt_succ_self _)
  · have e1 := List.mem_singleton.mp m
    have e2 := Heap.lt_size e
    rw [e1, hz] at e2
    exact absurd (Nat.lt_of_succ_lt e2) (Nat.lt_irrefl _)
  · have best := (argBest_least [ns, ms] 1 (Nat.lt_succ_self 1)).1
    have sz : (#[Value.ref a, Value.ref b] : Array Value).size - 1 = 1 := rfl
    rw [sz] at hP
    have hP2 : (([(a, ns), (b, ms)] : LA).map fun p => Value.ref p.1).toArray[argBest (fun i j => HT.lexLt ([ns, ms].getD i []) ([ns, ms].getD j [])) 1]? = some v := hP
    rw [List.getElem?_toArray, List.getElem?_map] at hP2
    obtain ⟨p, hp, rfl⟩ := Option.map_eq_some_iff.mp hP2
    have e3 : [ns, ms].getD (argBest (fun i j => HT.lexLt ([ns, ms].getD i []) ([ns, ms].getD j [])) 1) [] = p.2 := by
      have := congrArg (Option.map fun q : Addr × List Int => q.2) hp
      rw [← List.getElem?_map] at this
      rw [List.getD_eq_getElem?_getD]
      exact congrArg (fun z => Option.getD z []) this
    have e4 : p.2 = min2 ns ms := e3.symm.trans best
    refine ⟨.ref p.1, H, I.kept (t' := tk) fun d o e => hk d o (fun m => ?_) (Heap.get?_push_of_some _ (Heap.get?_push_of_some _ e)), rfl, q p (List.mem_of_getElem? hp) e4⟩
    have e1 := List.mem_singleton.mp m
    have e2 := Heap.lt_size e
    rw [e1, hz] at e2
    exact absurd (Nat.lt_of_succ_lt e2) (Nat.lt_irrefl _)
end
end RF

/-! ## RFTup2 -/
/-! More of tuples of whole numbers: sum, max, ==, in, index. -/
namespace RF
open PySem PySem.Spec PyProof.Rows L2
theorem vals_int : ∀ {ns : List Int} {us : List Value}, Vals (ns.map V.int) us → ∀ i v, us[i]? = some v → ∃ t, v = Value.int (ns.getD i 0) t
  | [], _, .nil, i, v, e => by simp at e
  | n :: ns, _ :: us, .cons r t, 0, v, e => by
    obtain ⟨tk, rfl⟩ := r
    simp only [List.getElem?_cons_zero, Option.some.injEq] at e
    exact ⟨tk, e.symm⟩
  | n :: ns, _ :: us, .cons r t, i + 1, v, e => vals_int t i v (by simpa using e)
theorem pre_sum : ∀ (ns : List Int) (k : Nat), k ≤ ns.length → preSum (fun i => ns.getD i 0) k = (ns.take k).sum
  | ns, 0, _ => by simp [preSum]
  | ns, k + 1, h => by
    have ih := pre_sum ns k (by omega)
    rw [List.take_succ_eq_append_getElem (by omega), List.sum_append, ← ih]
    simp only [preSum]
    rw [List.getD_eq_getElem?_getD, List.getElem?_eq_getElem (by omega)]
    simp
section
variable {X : Cx}
theorem tup_walk {pins : List (Addr × Obj)} {σ : L2.St} {H : Hp} {s : Shared} (I : Inv X pins σ H s) {a : Addr} {ns : List Int} (h : SqT X.K H a (ns.map V.int)) :
    ∃ its : List Value, s.heap.IsTuple a its.toArray ∧ its.length = ns.length ∧ ∀ i v, its.toArray[i]? = some v → ∃ t, v = Value.int (ns.getD i 0) t := by
  obtain ⟨its, r, p, _⟩ := I.tuple h
  refine ⟨its, p, by rw [← r.length, List.length_map], fun i v e => vals_int r i v (by simpa using e)⟩
/-- sum(t) -/
def rSumT (K : PySem.W.Frag) : List V → Hp → VK → Prop := fun vs H Q => ∃ (a : Addr) (ns : List Int), vs = [V.ref a] ∧ SqT K H a (ns.map V.int) ∧ Q (.int ns.sum) H
theorem cr_sumT (hc : X.calm = true) : CallR X (.builtin "sum") (rSumT X.K) := by
  intro pins s σ H vs us Q I r h
  obtain ⟨a, ns, rfl, hs, q⟩ := h
  obtain ⟨its, hT, hl, hv⟩ := tup_walk I hs
  rw [Vals.ref1 r]
  have hlt : a < s.heap.objs.size := by
    obtain ⟨o, e, _⟩ := hT
    exact Heap.lt_size e
  refine call_sum_walkG (wpAny_pyIter_tuple hT ?_)
  refine ⟨_, _, _, _, _, _, fun i => ns.getD i 0, rfl, Walks.tuple (A := X.A.in1) (I.ok.hd hc) s.heap.objs.size a (Nat.ne_of_lt hlt) _, ⟨⟨_, Heap.get?_push_size _ rfl, rfl, rfl⟩, hT.push _⟩, fun b hb => ?_, hv, fun g tk t' hk => ?_⟩
  · show b < (s.heap.push _).objs.size
    rw [Heap.size_push]
    rcases List.mem_cons.mp hb with e | hb
    · rw [e]; exact Nat.lt_succ_self _
    · rw [List.mem_singleton.mp hb]; exact Nat.lt_succ_of_lt hlt
  · have e : preSum (fun i => ns.getD i 0) its.toArray.size = ns.sum := by
      rw [List.size_toArray, hl, pre_sum ns _ (Nat.le_refl _), List.take_length]
    rw [e]
    refine ⟨.int _, H, I.kept (t' := tk) fun b o e => hk b o (fun m => ?_) (Heap.get?_push_of_some _ e), ⟨_, rfl⟩, q⟩
    have e1 : b = s.heap.objs.size := List.mem_singleton.mp m
    have e2 := Heap.lt_size e
    rw [e1] at e2
    exact absurd e2 (Nat.lt_irrefl _)
/-- max(t) -/
def rMaxT (K : PySem.W.Frag) : List V → Hp → VK → Prop := fun vs H Q => ∃ (a : Addr) (ns : List Int), vs = [V.ref a] ∧ SqT K H a (ns.map V.int) ∧ 0 < ns.length ∧ ∀ m, m ∈ ns → (∀ y, y ∈ ns → y ≤ m) → Q (.int m) H
theorem cr_maxT (hc : X.calm = true) : CallR X (.builtin "max") (rMaxT X.K) := by
  intro pins s σ H vs us Q I r h
  obtain ⟨a, ns, rfl, hs, pos, q⟩ := h
  obtain ⟨its, hT, hl, hv⟩ := tup_walk I hs
  rw [Vals.ref1 r]
  have hlt : a < s.heap.objs.size := by
    obtain ⟨o, e, _⟩ := hT
    exact Heap.lt_size e
  refine call_max_walk (wpAny_pyIter_tuple hT ?_)
  refine ⟨_, _, _, _, _, _, _, rfl, Walks.tuple (A := X.A.in1) (I.ok.hd hc) s.heap.objs.size a (Nat.ne_of_lt hlt) _, ⟨⟨_, Heap.get?_push_size _ rfl, rfl, rfl⟩, hT.push _⟩, fun b hb => ?_, by rw [List.size_toArray, hl]; exact pos, CmpOf.ints_gt (fun i => ns.getD i 0) hv, fun v g tk hP hk => ?_⟩
  · show b < (s.heap.push _).objs.size
    rw [Heap.size_push]
    rcases List.mem_cons.mp hb with e | hb
    · rw [e]; exact Nat.lt_succ_self _
    · rw [List.mem_singleton.mp hb]; exact Nat.lt_succ_of_lt hlt
  · obtain ⟨t, rfl⟩ := hv _ v hP
    obtain ⟨b1, b2⟩ := argBest_gt (fun i => ns.getD i 0) (its.toArray.size - 1)
    rw [List.size_toArray, hl] at b1 b2 ⊢
    refine ⟨.int _, H, I.kept (t' := tk) fun b o e => hk b o (fun m => ?_) (Heap.get?_push_of_some _ e), ⟨t, rfl⟩, q _ ?_ fun y hy => ?_⟩
    · have e1 : b = s.heap.objs.size := List.mem_singleton.mp m
      have e2 := Heap.lt_size e
      rw [e1] at e2
      exact absurd e2 (Nat.lt_irrefl _)
    · rw [List.getD_eq_getElem?_getD, List.getElem?_eq_getElem (by omega)]
      exact List.getElem_mem _
    · obtain ⟨i, hi, rfl⟩ := List.mem_iff_getElem.mp hy
      have z := b2 i (by omega)
      rw [List.getD_eq_getElem?_getD, List.getElem?_eq_getElem hi] at z
      exact z
end
/-! ### as data -/
def dI (ns : List Int) : PyData := .tuple (ns.map PyData.int)
theorem dp_ints {K : PySem.W.Frag} {H : Hp} : ∀ ns : List Int, DpAll K H (ns.map V.int) (ns.map PyData.int)
  | [] => .nil
  | n :: r => .cons (.int n) (dp_ints r)
theorem dp_tup {K : PySem.W.Frag} {H : Hp} {a : Addr} {ns : List Int} (h : SqT K H a (ns.map V.int)) : Dp K H (.ref a) (dI ns) := .tup h (dp_ints ns)
theorem lay_ints : ∀ ns : List Int, PyData.canLayAll0 (ns.map PyData.int) = true
  | [] => by simp [PyData.canLayAll0]
  | n :: r => by
    rw [List.map_cons, PyData.canLayAll0, lay_ints r]
    simp [PyData.canLay0]
theorem deep_ints : ∀ ns : List Int, PyData.depthAll (ns.map PyData.int) = 0
  | [] => by simp [PyData.depthAll]
  | n :: r => by
    rw [List.map_cons, PyData.depthAll, deep_ints r]
    simp [PyData.depth]
theorem dI_depth (ns : List Int) : (dI ns).depth = 1 := by
  unfold dI
  rw [PyData.depth, deep_ints]
theorem dI_lay (ns : List Int) : (dI ns).canLay0 = true := by
  unfold dI
  rw [PyData.canLay0, lay_ints]
theorem dI_shaped (ns : List Int) : SeqAt.shaped (dI ns) = true := by
  unfold SeqAt.shaped
  rw [dI_depth, dI_lay]
  rfl
theorem eqv_ints : ∀ ns ms : List Int, PyData.eqvAll (ns.map PyData.int) (ms.map PyData.int) = decide (ns = ms)
  | [], [] => by simp [PyData.eqvAll]
  | [], _ :: _ => by simp [PyData.eqvAll]
  | _ :: _, [] => by simp [PyData.eqvAll]
  | n :: r, m :: s => by
    rw [List.map_cons, List.map_cons, PyData.eqvAll, eqv_ints r s, PyData.eqv]
    by_cases h : n = m <;> by_cases h2 : r = s <;> simp [h, h2]
theorem eqv_dI (ns ms : List Int) : PyData.eqv (dI ns) (dI ms) = decide (ns = ms) := by
  unfold dI
  rw [PyData.eqv, eqv_ints]
theorem dp_refs {K : PySem.W.Frag} {H : Hp} : ∀ L : LA, Tups H L → DpAll K H (refs L) (L.map fun p => dI p.2)
  | [], _ => .nil
  | p :: r, h => .cons (dp_tup (SqT.of (h p List.mem_cons_self))) (dp_refs r fun q m => h q (List.mem_cons_of_mem _ m))
theorem lay_all : ∀ L : LA, PyData.canLayAll0 (L.map fun p => dI p.2) = true
  | [] => by simp [PyData.canLayAll0]
  | p :: r => by
    rw [List.map_cons, PyData.canLayAll0, lay_all r, dI_lay]
    rfl
theorem deep_all : ∀ L : LA, PyData.depthAll (L.map fun p => dI p.2) ≤ 1
  | [] => by simp [PyData.depthAll]
  | p :: r => by
    rw [List.map_cons, PyData.depthAll, dI_depth]
    have := deep_all r
    omega
theorem lst_shaped (L : LA) : SeqAt.shaped (.list (L.map fun p => dI p.2)) = true := by
  unfold SeqAt.shaped
  rw [PyData.depth, PyData.canLay0, lay_all]
  have := deep_all L
  simp
  omega
section
variable {X : Cx}
/-- t == u -/
def rEqT (K : PySem.W.Frag) : R2 := fun x y H Q => ∃ (a b : Addr) (ns ms : List Int), x = .ref a ∧ y = .ref b ∧ SqT K H a (ns.map V.int) ∧ SqT K H b (ms.map V.int) ∧ Q (.bl (decide (ns = ms))) H
theorem op_eqT (hu : X.A.units + 64 < cLine) : OpR X (compareOp .Eq) (rEqT X.K) := by
  intro pins s σ H x y v u Q I rx ry h
  obtain ⟨a, b, ns, ms, rfl, rfl, h1, h2, q⟩ := h
  exact op_eqD hu pins s σ H _ _ v u Q I rx ry ⟨dI ns, dI ms, dp_tup h1, dp_tup h2, dI_shaped _, dI_shaped _, by rw [eqv_dI]; exact q⟩
theorem any_dI (L : LA) (ns : List Int) : ((L.map fun p => dI p.2).any fun z => PyData.eqv z (dI ns)) = decide (ns ∈ L.map (·.2)) := by
  rw [List.any_map]
  rw [Bool.eq_iff_iff]
  simp only [List.any_eq_true, Function.comp_apply, eqv_dI, decide_eq_true_eq, List.mem_map]
/-- t in ts, t not in ts -/
def rInT (K : PySem.W.Frag) (neg : Bool) : R2 := fun x y H Q => ∃ (t a : Addr) (ns : List Int) (L : LA), x = .ref t ∧ y = .ref a ∧ SqT K H t (ns.map V.int) ∧ SqL K H a (refs L) ∧ Tups H L ∧ Q (.bl (if neg then !decide (ns ∈ L.map (·.2)) else decide (ns ∈ L.map (·.2)))) H
theorem op_inT (hu : X.A.units + 65 < cLine) : OpR X (compareOp .In) (rInT X.K false) := by
  intro pins s σ H x y v u Q I rx ry h
  obtain ⟨t, a, ns, L, rfl, rfl, h1, h2, h3, q⟩ := h
  exact op_inD hu pins s σ H _ _ v u Q I rx ry ⟨dI ns, L.map fun p => dI p.2, dp_tup h1, .lst h2 (dp_refs L h3), dI_shaped _, lst_shaped L, by rw [any_dI]; exact q⟩
theorem op_notInT (hu : X.A.units + 65 < cLine) : OpR X (compareOp .NotIn) (rInT X.K true) := by
  intro pins s σ H x y v u Q I rx ry h
  obtain ⟨t, a, ns, L, rfl, rfl, h1, h2, h3, q⟩ := h
  exact op_notInD hu pins s σ H _ _ v u Q I rx ry ⟨dI ns, L.map fun p => dI p.2, dp_tup h1, .lst h2 (dp_refs L h3), dI_shaped _, lst_shaped L, by rw [any_dI]; exact q⟩
/-- ts.index(t) -/
def rIndexT (K : PySem.W.Frag) : V → List V → Hp → VK → Prop := fun x xs H Q => ∃ (a t : Addr) (ns : List Int) (L : LA) (j : Nat), x = .ref a ∧ xs = [.ref t] ∧ SqL K H a (refs L) ∧ Tups H L ∧ SqT K H t (ns.map V.int) ∧ (L.map (·.2))[j]? = some ns ∧ (∀ m, m < j → (L.map (·.2))[m]? ≠ some ns) ∧ Q (.int (j : Nat)) H
theorem mt_indexT (hu : X.A.units + 65 < cLine) : MtR X "list.index" (rIndexT X.K) := by
  intro pins s σ H x xs v us Q I rx rxs h
  obtain ⟨a, t, ns, L, j, rfl, rfl, h1, h2, h3, hj, hno, q⟩ := h
  have conv : ∀ m, (L.map fun p => dI p.2)[m]? = ((L.map (·.2))[m]?).map dI := fun m => by
    rw [List.getElem?_map, List.getElem?_map, Option.map_map]; rfl
  refine mt_indexD hu pins s σ H _ _ v us Q I rx rxs ⟨a, .ref t, dI ns, L.map fun p => dI p.2, j, dI ns, rfl, rfl, .lst h1 (dp_refs L h2), dp_tup h3, lst_shaped L, dI_shaped _, by rw [conv, hj]; rfl, by rw [eqv_dI]; simp, fun m z lt e => ?_, q⟩
  rw [conv] at e
  obtain ⟨ms, e1, rfl⟩ := Option.map_eq_some_iff.mp e
  rw [eqv_dI]
  exact decide_eq_false fun z => hno m lt (z ▸ e1)
end
end RF

/-! ## RFSort -/
/-! sorted(ts), sorted(d): tuples of whole numbers, all of one length, in their order. -/
namespace RF
open PySem PySem.Spec PyProof.Rows L2
/-! ### the order -/
def leT (a b : List Int) : Bool := !HT.lexLt b a
def insT (x : List Int) : List (List Int) → List (List Int)
  | [] => [x]
  | y :: r => if leT x y then x :: y :: r else y :: insT x r
def sortT : List (List Int) → List (List Int)
  | [] => []
  | x :: r => insT x (sortT r)
theorem lt_irr : ∀ a : List Int, HT.lexLt a a = false
  | [] => rfl
  | x :: r => by rw [HT.lexLt_cons, if_pos rfl, lt_irr r]
theorem le_antisymm : ∀ {a b : List Int}, leT a b = true → leT b a = true → a = b
  | [], [], _, _ => rfl
  | [], y :: s, _, h => by simp [leT, HT.lexLt_nil_cons] at h
  | x :: r, [], h, _ => by simp [leT, HT.lexLt_nil_cons] at h
  | x :: r, y :: s, h1, h2 => by
    unfold leT at h1 h2
    rw [HT.lexLt_cons] at h1 h2
    by_cases e : x = y
    · subst e
      rw [if_pos rfl] at h1 h2
      rw [le_antisymm (a := r) (b := s) h1 h2]
    · rw [if_neg (Ne.symm e)] at h1
      rw [if_neg e] at h2
      simp at h1 h2
      omega
theorem lt_trans : ∀ {a b c : List Int}, HT.lexLt a b = true → HT.lexLt b c = true → HT.lexLt a c = true
  | [], [], _, h, _ => by simp [HT.lexLt_nil_nil] at h
  | [], _ :: _, [], _, h => by simp [HT.lexLt_cons_nil] at h
  | [], _ :: _, _ :: _, _, _ => rfl
  | _ :: _, [], _, h, _ => by simp [HT.lexLt_cons_nil] at h
  | _ :: _, _ :: _, [], _, h => by simp [HT.lexLt_cons_nil] at h
  | x :: r, y :: s, z :: t, h1, h2 => by
    rw [HT.lexLt_cons] at h1 h2 ⊢
    by_cases e1 : x = y
    · by_cases e2 : y = z
      · rw [if_pos e1] at h1
        rw [if_pos e2] at h2
        rw [if_pos (e1.trans e2)]
        exact lt_trans h1 h2
      · rw [if_neg e2] at h2
        rw [if_neg (by rw [e1]; exact e2), e1]
        exact h2
    · rw [if_neg e1] at h1
      by_cases e2 : y = z
      · rw [if_neg (by rw [← e2]; exact e1), ← e2]
        exact h1
      · rw [if_neg e2] at h2
        have g1 := of_decide_eq_true h1
        have g2 := of_decide_eq_true h2
        rw [if_neg (by omega)]
        exact decide_eq_true (by omega)
theorem lt_total : ∀ {a b : List Int}, HT.lexLt a b = false → a ≠ b → HT.lexLt b a = true := fun {a b} h n => by
  cases e : HT.lexLt b a with
  | true => rfl
  | false => exact absurd (le_antisymm (a := a) (b := b) (by unfold leT; rw [e]; rfl) (by unfold leT; rw [h]; rfl)) n
theorem le_trans {a b c : List Int} (h1 : leT a b = true) (h2 : leT b c = true) : leT a c = true := by
  unfold leT at *
  cases e : HT.lexLt c a with
  | false => rfl
  | true =>
    have n1 : HT.lexLt b a = false := by simpa using h1
    have n2 : HT.lexLt c b = false := by simpa using h2
    by_cases z : b = c
    · subst z
      rw [e] at n1
      cases n1
    · have := lt_trans (lt_total n2 (Ne.symm z)) e
      rw [this] at n1
      cases n1
theorem le_or {a b : List Int} (h : leT a b = false) : leT b a = true := by
  unfold leT at *
  have h : HT.lexLt b a = true := by simpa using h
  cases e : HT.lexLt a b with
  | false => rfl
  | true =>
    have := lt_trans h e
    rw [lt_irr] at this
    cases this
theorem ins_perm (x : List Int) : ∀ l, (insT x l).Perm (x :: l)
  | [] => List.Perm.refl _
  | y :: r => by
    unfold insT
    split
    · exact List.Perm.refl _
    · exact ((ins_perm x r).cons y).trans (List.Perm.swap x y r)
theorem sortT_perm : ∀ l, (sortT l).Perm l
  | [] => List.Perm.refl _
  | x :: r => (ins_perm x _).trans ((sortT_perm r).cons x)
theorem ins_sorted (x : List Int) : ∀ l, l.Pairwise (fun a b => leT a b = true) → (insT x l).Pairwise (fun a b => leT a b = true)
  | [], _ => List.pairwise_singleton _ _
  | y :: r, h => by
    obtain ⟨h1, h2⟩ := List.pairwise_cons.mp h
    unfold insT
    split
    · next c =>
      refine List.pairwise_cons.mpr ⟨fun z hz => ?_, h⟩
      rcases List.mem_cons.mp hz with rfl | hz
      · exact c
      · exact le_trans c (h1 z hz)
    · next c =>
      refine List.pairwise_cons.mpr ⟨fun z hz => ?_, ins_sorted x r h2⟩
      rcases List.mem_cons.mp ((ins_perm x r).mem_iff.mp hz) with rfl | hz
      · exact le_or (by simpa using c)
      · exact h1 z hz
theorem sortT_sorted : ∀ l, (sortT l).Pairwise (fun a b => leT a b = true)
  | [] => List.Pairwise.nil
  | x :: r => ins_sorted x _ (sortT_sorted r)
theorem sortT_is {l m : List (List Int)} (h1 : m.Perm l) (h2 : m.Pairwise (fun a b => leT a b = true)) : m = sortT l :=
  List.Perm.eq_of_pairwise (le := fun a b => leT a b = true) (fun _ _ _ _ p q => le_antisymm p q) h2 (sortT_sorted l) (h1.trans (sortT_perm l).symm)
theorem lt_code {B : Int} : ∀ {a b : List Int}, a.length = b.length → TS.Bd B a → TS.Bd B b → HT.lexLt a b = true → TS.code B a < TS.code B b
  | [], [], _, _, _, h => by simp [HT.lexLt_nil_nil] at h
  | [], _ :: _, e, _, _, _ => by simp at e
  | _ :: _, [], e, _, _, _ => by simp at e
  | x :: r, y :: s, e, ha, hb, h => by
    have e1 : r.length = s.length := by simpa using e
    rw [HT.lexLt_cons] at h
    by_cases z : x = y
    · subst z
      rw [if_pos rfl] at h
      exact (TS.code_same e1).mpr (lt_code (a := r) (b := s) e1 ha.tail hb.tail h)
    · rw [if_neg z] at h
      exact TS.code_lt e1 ha.tail hb.tail (of_decide_eq_true h)
theorem le_code {B : Int} {a b : List Int} (e : a.length = b.length) (ha : TS.Bd B a) (hb : TS.Bd B b) (h : TS.code B a ≤ TS.code B b) : leT a b = true := by
  unfold leT
  cases z : HT.lexLt b a with
  | false => rfl
  | true =>
    have := lt_code e.symm hb ha z
    omega
theorem perm_map {α β : Type} (f : α → β) {ys xs : List β} (h : ys.Perm xs) : ∀ L : List α, xs = L.map f → ∃ M : List α, ys = M.map f ∧ M.Perm L := by
  induction h with
  | nil =>
    intro L e
    rw [List.map_eq_nil_iff.mp e.symm]
    exact ⟨[], rfl, List.Perm.refl _⟩
  | cons x _ ih =>
    intro L e
    cases L with
    | nil => cases e
    | cons p L =>
      rw [List.map_cons] at e
      injection e with e1 e2
      obtain ⟨M, m1, m2⟩ := ih L e2
      exact ⟨p :: M, by rw [List.map_cons, e1, m1], m2.cons p⟩
  | swap x y l =>
    intro L e
    cases L with
    | nil => cases e
    | cons p L =>
      cases L with
      | nil => cases e
      | cons q L =>
        injection e with e1 e2
        injection e2 with e2 e3
        exact ⟨q :: p :: L, by rw [e1, e2, e3]; rfl, List.Perm.swap p q L⟩
  | trans _ _ ih1 ih2 =>
    intro L e
    obtain ⟨M, m1, m2⟩ := ih2 L e
    obtain ⟨N, n1, n2⟩ := ih1 M m1
    exact ⟨N, n1, n2.trans m2⟩
theorem vals_of_refs : ∀ M : LA, Vals (refs M) (M.map fun p => Value.ref p.1)
  | [] => .nil
  | p :: r => .cons (show RelV (.ref p.1) (.ref p.1) from rfl) (vals_of_refs r)
/-! ### sorted(ts) -/
section
variable {X : Cx}
def rSortL (K : PySem.W.Frag) (d : Nat) (B : Int) : List V → Hp → VK → Prop := fun vs H Q => ∃ (a : Addr) (L : LA), vs = [V.ref a] ∧ SqL K H a (refs L) ∧ Tups H L ∧ L.length < 64 ∧ (∀ p ∈ L, p.2.length = d ∧ TS.Bd B p.2) ∧
  ∀ (M : LA) (q : Addr), M.Perm L → M.map (·.2) = sortT (L.map (·.2)) → H q = none → Q (.ref q) (upd H q (.lst (refs M)))
theorem cr_sortL {d : Nat} {B : Int} (hd : 1 ≤ d) : CallR X (.builtin "sorted") (rSortL X.K d B) := by
  intro pins s σ H vs us Q I r h
  obtain ⟨a, L, rfl, hs, hT, h64, hL, q⟩ := h
  refine cr_sortT (d := d) (B := B) hd pins s σ H _ us Q I r ⟨a, refs L, rfl, hs, by unfold refs; rw [List.length_map]; exact h64, fun x hx => ?_, fun ys p hp hw hn => ?_⟩
  · obtain ⟨z, m, rfl⟩ := List.mem_map.mp hx
    exact ⟨z.2, ⟨z.1, rfl, SqT.of (hT z m)⟩, (hL z m).1, (hL z m).2⟩
  · obtain ⟨M, rfl, pm⟩ := perm_map (fun p : Addr × List Int => V.ref p.1) hp L rfl
    refine q M p pm (sortT_is (pm.map (·.2)) ?_) hn
    rw [List.pairwise_map] at hw ⊢
    refine List.Pairwise.imp_of_mem (fun {x y} mx my hxy => ?_) hw
    have kx := pm.mem_iff.mp mx
    have ky := pm.mem_iff.mp my
    exact le_code ((hL x kx).1.trans (hL y ky).1.symm) (hL x kx).2 (hL y ky).2 (hxy x.2 y.2 ⟨x.1, rfl, SqT.of (hT x kx)⟩ ⟨y.1, rfl, SqT.of (hT y ky)⟩)
/-! ### sorted(d), the keys of d tuples of whole numbers -/
def kI (ns : List Int) : List Key := ns.map Sum.inl
theorem kI_kV (ns : List Int) : (kI ns).map kV = ns.map V.int := by
  unfold kI
  rw [List.map_map]
  rfl
def rSortD (d : Nat) (B : Int) : List V → Hp → VK → Prop := fun vs H Q => ∃ (a : Addr) (kvs : List (List Key × V)) (nss : List (List Int)), vs = [V.ref a] ∧ Rd H a (.dT kvs) ∧ kvs.map (·.1) = nss.map kI ∧ nss.length < 64 ∧ (∀ ns ∈ nss, ns.length = d ∧ TS.Bd B ns) ∧
  ∀ (M : LA) (q : Addr), Tups H M → M.map (·.2) = sortT nss → H q = none → Q (.ref q) (upd H q (.lst (refs M)))
theorem keysAt {H : Hp} : ∀ {kvs : List (List Key × V)} {ks : List (List Key × Addr × Value)} {nss : List (List Int)}, KT H kvs ks → kvs.map (·.1) = nss.map kI → ∃ L : LA, ks.map (fun x => x.2.1) = L.map (·.1) ∧ L.map (·.2) = nss ∧ Tups H L
  | [], _, [], .nil, _ => ⟨[], rfl, rfl, fun p m => absurd m (by simp)⟩
  | [], _, _ :: _, .nil, e => by cases e
  | p :: kvs, _ :: ks, [], .cons _ _, e => by cases e
  | p :: kvs, k :: ks, ns :: nss, .cons h t, e => by
    rw [List.map_cons, List.map_cons] at e
    injection e with e1 e2
    obtain ⟨L, l1, l2, l3⟩ := keysAt t e2
    refine ⟨(k.2.1, ns) :: L, by rw [List.map_cons, l1]; rfl, by rw [List.map_cons, l2], fun x m => ?_⟩
    rcases List.mem_cons.mp m with rfl | m
    · have z := h.2.1
      rw [e1, kI_kV] at z
      exact z
    · exact l3 x m
theorem cr_sortD {d : Nat} {B : Int} (hd : 1 ≤ d) (hc : X.calm = true) : CallR X (.builtin "sorted") (rSortD d B) := by
  intro pins s σ H vs us Q I r h
  obtain ⟨a, kvs, nss, rfl, hr, hk, h64, hb, q⟩ := h
  rw [Vals.ref1 r]
  obtain ⟨z, hs, ks, pr, o, es, ep, ho, hx, hdt, he, hn⟩ := (show ObjOk X.prog X.w H s.heap a (.dT kvs) from hr.ok I.hok)
  obtain ⟨L, l1, l2, hT⟩ := keysAt pr hk
  have sz : es.size = ks.length := size_of_entries he
  have le : ks.length = nss.length := by
    have e1 := congrArg List.length l1
    have e2 := congrArg List.length l2
    rw [List.length_map, List.length_map] at e1
    rw [List.length_map] at e2
    omega
  have small : ks.length ≤ sizeLine := Nat.le_trans (Nat.le_of_lt (by omega : ks.length < 64)) (by decide)
  refine Calls.call_function_entry PyProof.Rows.kind_sorted PyProof.Rows.plain_sorted PyProof.Rows.entry_sorted (PyProof.Rows.args_sorted1 _) ?_
  unfold Builtin.«sorted»
  refine wpAny_bind (m := checkCount "sorted" 1 1 _) (wpAny_pure ?_)
  refine wpAny_bind (PySem.W.kdu_collect (A := X.A.in1) (kdl_raw hs hx hdt) (I.ok.hd hc) ho (by rw [sz]; exact small) fun g tk acc kg it => ?_)
  have ea : acc.toList = L.map fun p => Value.ref p.1 := by
    have e0 : (L.map fun p => Value.ref p.1) = (ks.map fun x => x.2.1).map Value.ref := by rw [l1, List.map_map]; rfl
    rw [e0, List.map_map]
    apply List.ext_getElem?
    intro j
    rw [List.getElem?_map]
    cases hj : acc.toList[j]? with
    | none =>
      have h1 := List.getElem?_eq_none_iff.mp hj
      rw [Array.length_toList, it.1, sz] at h1
      rw [List.getElem?_eq_none h1]
      rfl
    | some v =>
      obtain ⟨en, hen, hv⟩ := it.2 j v (by rw [← Array.getElem?_toList]; exact hj)
      have qe := entry_at he j
      rw [hen] at qe
      cases hb : ks[j]? with
      | none =>
        rw [hb] at qe
        cases qe
      | some b =>
        rw [hb] at qe
        rw [hv, show en = entryOfKey (tupleKind (mixKind X.prog X.w)) b from Option.some.inj qe]
        rfl
  have I1 : Inv X pins σ H { s with heap := g, toks := tk } := I.kept kg
  have alen : acc.toList.length = nss.length := by rw [ea, List.length_map, ← l2, List.length_map]
  refine wpAny_bind (wpAny_newList ?_ (by rw [alen, ← le]; exact small))
  have hoL : (g.push (seqObj "list" acc.toList.toArray 0)).get? g.objs.size = some (seqObj "list" acc.toList.toArray 0) := Heap.get?_push_size _ rfl
  have tups : TS.TupsOk (g.push (seqObj "list" acc.toList.toArray 0)) d B acc.toList := fun v hv => by
    rw [ea] at hv
    obtain ⟨p, m, rfl⟩ := List.mem_map.mp hv
    have mn : p.2 ∈ nss := by rw [← l2]; exact List.mem_map_of_mem m
    have raw := tupI_raw I1 (SqT.of (hT p m))
    exact ⟨p.2, raw.keeps fun b o e _ => Heap.get?_push_of_some _ e, hb p.2 mn⟩
  have rd : ∀ p ∈ L, TS.intsOf (g.push (seqObj "list" acc.toList.toArray 0)) (.ref p.1) = p.2 := fun p m =>
    ((tupI_raw I1 (SqT.of (hT p m))).keeps fun b o e _ => Heap.get?_push_of_some _ e).ints
  show wpAny _ _ _ _ _ { s with heap := g.push (seqObj "list" acc.toList.toArray 0), toks := tk }
  refine wpAny_bind (wpAny_holding (wpAny_call_entry PyProof.Rows.slot_list_sort ⟨_, hoL, rfl⟩ PyProof.Rows.entry_list_sort
    (TS.sort_tups (s := { s with heap := g.push (seqObj "list" acc.toList.toArray 0), toks := tk }) hoL (by rw [alen]; exact h64) hd tups (fun v => TS.code B (TS.intsOf (g.push (seqObj "list" acc.toList.toArray 0)) v)) (fun v _ ns t => by show TS.code B _ = _; rw [t.ints]) fun out o1 o2 => ⟨_, rfl, ?_⟩) (PyProof.Rows.args_list_sort _)))
  obtain ⟨M, m1, m2⟩ := perm_map (fun p : Addr × List Int => Value.ref p.1) (o1.trans (List.Perm.of_eq ea)) L rfl
  obtain ⟨e', he'⟩ := PyProof.Rows.sortedHeap_at (vs := acc.toList) (out := out) hoL
  have hlen : (refs M).length ≤ sizeLine := by
    have : M.length = nss.length := by rw [m2.length_eq, ← l2, List.length_map]
    unfold refs
    rw [List.length_map, this, ← le]
    exact small
  have rv : Vals (refs M) out.toList := by
    rw [m1]
    exact vals_of_refs M
  have srt : M.map (·.2) = sortT nss := by
    rw [← l2]
    refine sortT_is (m2.map (·.2)) ?_
    rw [m1, List.pairwise_map] at o2
    rw [List.pairwise_map]
    refine List.Pairwise.imp_of_mem (fun {x y} mx my hxy => ?_) o2
    have kx := m2.mem_iff.mp mx
    have ky := m2.mem_iff.mp my
    have bx := hb x.2 (by rw [← l2]; exact List.mem_map_of_mem kx)
    have bY := hb y.2 (by rw [← l2]; exact List.mem_map_of_mem ky)
    rw [rd x kx, rd y ky] at hxy
    exact le_code (bx.1.trans bY.1.symm) bx.2 bY.2 hxy
  refine wpAny_pure ⟨_, rfl, .ref g.objs.size, upd H g.objs.size (.lst (refs M)), I1.laid (t' := tk) (fun b u e => ?_) (Nat.le_refl _) ⟨hlen, out.toList, e', rv, by rw [Array.toArray_toList]; exact he'⟩, rfl, q M _ (fun p m => hT p (m2.mem_iff.mp m)) srt (I1.hok.fresh (Nat.le_refl _))⟩
  have hb : b < g.objs.size := Heap.lt_size e
  rw [PyProof.Rows.sortedHeap_old (Nat.ne_of_lt hb) (by rw [size_push']; exact Nat.lt_succ_of_lt hb)]
  exact Heap.get?_push_of_some _ e
end
end RF

/-! ## RFRow -/
namespace RF
open PySem PySem.Spec PyProof.Rows L2
open PySem.W (Codec)
/-- the i-th statement of the text -/
def top (i : Nat) : Stmt := PySem.Challenge.pw_rulesfound_s01_answers.main.body.getD i (.Pass ⟨0, 0, 0, 0⟩)
/-- what the top leaves of Python's own names -/
structure Own (mg : Str → Option Value) : Prop where
  len : mg "len" = none
  range : mg "range" = none
  tuple : mg "tuple" = none
  min : mg "min" = none
  max : mg "max" = none
  sum : mg "sum" = none
  sorted : mg "sorted" = none
  list : mg "list" = none
  enumerate : mg "enumerate" = none
  zip : mg "zip" = none
  any : mg "any" = none
/-! ### row_from -/
def rowFrom (ns : List Int) (p s : Int) : List Int := (List.range ns.length).map fun i : Nat => ns.getD ((p + s * (i : Int)) % (ns.length : Int)).toNat 0
abbrev sRow : Stmt := top 2
def spRow (K : PySem.W.Frag) : Sp := fun vs H Q _ => ∃ (a : Addr) (ns : List Int) (p s : Int), vs = [.ref a, .int p, .int s] ∧ SqT K H a (ns.map V.int) ∧ 0 < ns.length ∧ ns.length ≤ 100 ∧ (-100 ≤ s ∧ s ≤ 100) ∧
  ∀ (H' : Hp) (q : Addr), Same H H' → H q = none → H' q = some (.tup ((rowFrom ns p s).map V.int)) → Q (.ref q) H'
theorem scRow : FnScope ["ring", "place", "step", "size", "far"] ["ring", "place", "step"] (defScope sRow) := ⟨rfl, rfl, rfl, by decide +kernel, rfl, by decide +kernel, by decide +kernel⟩
section
variable {P : Program} {w : World} {K : PySem.W.Frag} {mg : Str → Option Value} {base : Heap}
theorem ok_row {f : Addr} {fd : FuncData} (F : Fun K "row_from" "row_from" sRow f fd) (O : Own mg) : FnOk P w K mg base CX0 1 f fd ["ring", "place", "step"] (spRow K) := by
  refine F.ok scRow (fun vs H Q E h => ?_) (fun cdv A outer s H vs Q E hr h => ?_)
  · obtain ⟨a, ns, p, s, rfl, _⟩ := h
    rfl
  · refine ⟨_, pss_cons (ps_set (i := 3) scRow.nd rfl (Or.inr rfl) (pe_callB call_len_seq (by rfl) O.len PySem.boot_len (pa_cons (pv 0) pa_nil)))
      (pss_one (ps_ret (pe_callTy call_tuple_of (by rfl) O.tuple (by decide +kernel) (pa_cons
        (pe_lc (own := [("far", 4)]) (g := gName 4) (tt := tYes) rfl scRow.nd (pi_range1 rfl O.range (pa_cons (pv 3) pa_nil)) (blkOk_by (N := ["ring", "place", "step", "size", "far"]) (sc := defScope sRow) (by decide +kernel))
          (fun _ _ _ _ _ => pg_name (i := 4) scRow.nd rfl (Or.inl rfl)) (fun _ _ _ _ _ => pts_nil)
          (fun _ _ _ _ _ => pe_ix (r := rIxT K) ix_tup (pv 0) (pe_op op_modN (pe_op op_add (pv 1) (pe_op op_mul (pv 2) (pv 4))) (pv 3)) (fun _ _ => rfl))) pa_nil)))), ?_⟩
    obtain ⟨a, ns, p, s, rfl, ha, hp, h100, hs, k⟩ := h
    have len : (ns.map V.int).length = ns.length := List.length_map ..
    refine ⟨_, rfl, a, _, rfl, .inr ha, ?_⟩
    refine ⟨_, rfl, _, rfl, by rw [len]; omega, by rw [len]; omega, fun D hD => ?_⟩
    have fin : ∀ H1 : Hp, H1 = upd H D (.lst ((rowFrom ns p s).map V.int)) → ∀ l, H1 l = none → Q (.ref l) (upd H1 l (.tup ((rowFrom ns p s).map V.int))) := fun H1 e l hl => by
      have s1 : Same H H1 := by rw [e]; exact same_new hD
      exact k _ l (s1.trans (same_new hl)) (s1.free hl) upd_same
    refine lc_range (lo := 0) (fun i H' => H' = upd H D (.lst (((rowFrom ns p s).take i).map V.int))) rfl ?_ ?_
    · rintro i H1 hi rfl
      have hi : i < ns.length := by rw [Int.toNat_natCast, len] at hi; exact hi
      have hn : (0 : Int) < (ns.length : Int) := by omega
      have j0 := Int.emod_nonneg (p + s * (i : Int)) (Int.ne_of_gt hn)
      have j1 := Int.emod_lt_of_pos (p + s * (i : Int)) hn
      have at_ : atI (ns.map V.int) ((p + s * (0 + (i : Int))).fmod ((ns.map V.int).length : Int)) = some (V.int (ns.getD ((p + s * (i : Int)) % (ns.length : Int)).toNat 0)) := by
        rw [len, Int.zero_add, Int.fmod_eq_emod_of_nonneg _ (Int.le_of_lt hn)]
        generalize (p + s * (i : Int)) % (ns.length : Int) = z at j0 j1
        obtain ⟨m, rfl⟩ := Int.eq_ofNat_of_zero_le j0
        have hm : m < ns.length := by omega
        refine atI_nat ?_
        rw [List.getElem?_map, List.getD_eq_getElem?_getD, Int.toNat_natCast, List.getElem?_eq_getElem hm] <;> rfl
      have more : (rowFrom ns p s).take (i + 1) = (rowFrom ns p s).take i ++ [ns.getD ((p + s * (i : Int)) % (ns.length : Int)).toNat 0] := by
        have lr : (rowFrom ns p s).length = ns.length := by unfold rowFrom; simp
        rw [List.take_succ_eq_append_getElem (by rw [lr]; exact hi)]
        unfold rowFrom
        simp
      refine ⟨rfl, ?_⟩
      refine ⟨_, rfl, _, rfl, _, rfl, _, rfl, _, _, rfl, rfl, .inl ⟨by omega, by omega⟩, _, _, rfl, rfl, _, rfl, _, _, rfl, rfl, by rw [len]; omega, a, _, _, _, rfl, rfl, same_tup (same_new hD) ha, at_, ?_⟩
      refine ⟨_, upd_same, ?_, ?_⟩
      · rw [List.length_map, List.length_take]
        have : (100 : Nat) < sizeLine := by decide
        omega
      · rw [more, List.map_append, upd_upd]
        rfl
    · rintro H1 e
      rw [List.take_of_length_le (by unfold rowFrom; simp)] at e
      refine ⟨D, _, rfl, .inl ⟨?_, fin H1 e⟩⟩
      rw [e]
      exact SqL.of upd_same
/-! ### lesser_row -/
end
def lesserRow (ns : List Int) (p : Int) : List Int := min2 (rowFrom ns p 1) (rowFrom ns p (-1))
abbrev sLes : Stmt := top 3
def spLes (K : PySem.W.Frag) : Sp := fun vs H Q _ => ∃ (a : Addr) (ns : List Int) (p : Int), vs = [.ref a, .int p] ∧ SqT K H a (ns.map V.int) ∧ 0 < ns.length ∧ ns.length ≤ 100 ∧
  ∀ (H' : Hp) (q : Addr), Same H H' → H q = none → H' q = some (.tup ((lesserRow ns p).map V.int)) → Q (.ref q) H'
theorem scLes : FnScope ["ring", "place"] ["ring", "place"] (defScope sLes) := ⟨rfl, rfl, rfl, by decide +kernel, rfl, by decide +kernel, by decide +kernel⟩
section
variable {P : Program} {w : World} {K : PySem.W.Frag} {mg : Str → Option Value} {base : Heap}
/-- a def that stands at f, is called by its name, and keeps its promise -/
structure Def (P : Program) (w : World) (K : PySem.W.Frag) (mg : Str → Option Value) (base : Heap) (k : Nat) (x : Str) (ps : List Str) (sp : Sp) (f : Addr) (fd : FuncData) : Prop where
  ok : FnOk P w K mg base CX0 k f fd ps sp
  g : mg x = some (.ref f)
  kp : PySem.W.keepIn K (.ref f) = true
  b : Binds K fd ps []
theorem ok_les {f fR : Addr} {fd fdR : FuncData} (F : Fun K "lesser_row" "lesser_row" sLes f fd) (O : Own mg) (R : Def P w K mg base 1 "row_from" ["ring", "place", "step"] (spRow K) fR fdR) : FnOk P w K mg base CX0 2 f fd ["ring", "place"] (spLes K) := by
  refine F.ok scLes (fun vs H Q E h => ?_) (fun cdv A outer s H vs Q E hr h => ?_)
  · obtain ⟨a, ns, p, rfl, _⟩ := h
    rfl
  · refine ⟨_, pss_one (ps_ret (pe_callB (cr_min2T rfl hr.in1.units0) (by rfl) O.min (by decide +kernel) (pa_cons (pe_call R.ok hr rfl R.g R.kp R.b .nil pass0 (pa_cons (pv 0) (pa_cons (pv 1) (pa_cons pe_int pa_nil))))
      (pa_cons (pe_call R.ok hr rfl R.g R.kp R.b .nil pass0 (pa_cons (pv 0) (pa_cons (pv 1) (pa_cons (pe_un un_neg pe_int) pa_nil)))) pa_nil)))), ?_⟩
    obtain ⟨a, ns, p, rfl, ha, hp, h100, k⟩ := h
    refine ⟨_, rfl, _, rfl, a, ns, p, 1, rfl, ha, hp, h100, ⟨by decide, by decide⟩, fun H1 q1 s1 n1 e1 => ?_⟩
    refine ⟨_, rfl, _, rfl, 1, rfl, a, ns, p, -1, rfl, same_tup s1 ha, hp, h100, ⟨by decide, by decide⟩, fun H2 q2 s2 n2 e2 => ?_⟩
    refine ⟨q1, q2, _, _, rfl, s2 _ _ e1, e2, fun x m ex => ?_⟩
    rcases List.mem_cons.mp m with rfl | m
    · have ex : rowFrom ns p 1 = lesserRow ns p := ex
      exact k H2 q1 (s1.trans s2) n1 (by rw [← ex]; exact s2 _ _ e1)
    · rw [List.mem_singleton.mp m] at ex ⊢
      have ex : rowFrom ns p (-1) = lesserRow ns p := ex
      exact k H2 q2 (s1.trans s2) (s1.free n2) (by rw [← ex]; exact e2)
end
end RF

/-! ## RFName -/
namespace RF
open PySem PySem.Spec PyProof.Rows L2
/-! ### heaps, once more -/
theorem ne_kinds {H : Hp} {a b : Addr} {o u : HO} (h1 : H a = some o) (h2 : H b = some u) (h : o ≠ u) : a ≠ b := fun e => h (Option.some.inj (h1.symm.trans (e ▸ h2)))
theorem Tups.upd {H : Hp} {M : LA} {D : Addr} {xs : List V} {o : HO} (h : Tups H M) (hD : H D = some (.lst xs)) : Tups (upd H D o) M := fun p m => by
  rw [upd_ne (ne_kinds (h p m) hD (fun z => by cases z))]
  exact h p m
theorem Tups.snoc {H : Hp} {M : LA} {a : Addr} {ns : List Int} (h : Tups H M) (e : H a = some (.tup (ns.map V.int))) : Tups H (M ++ [(a, ns)]) := fun p m => by
  rcases List.mem_append.mp m with m | m
  · exact h p m
  · rw [List.mem_singleton.mp m]; exact e
theorem same_upd {H H' : Hp} {D : Addr} {o : HO} (h : Same H H') (n : H D = none) : Same H (upd H' D o) := fun b u e => by
  rw [upd_ne (fun z => by rw [z, n] at e; cases e)]
  exact h b u e
theorem refs_snoc (M : LA) (a : Addr) (ns : List Int) : refs M ++ [V.ref a] = refs (M ++ [(a, ns)]) := by
  unfold refs
  rw [List.map_append]
  rfl
theorem range_snoc {α : Type} (f : Nat → α) (i : Nat) : (List.range (i + 1)).map f = (List.range i).map f ++ [f i] := by
  rw [List.range_succ, List.map_append]
  rfl
/-! ### even_handed -/
def evenHanded (ns : List Int) : Bool := decide (rowFrom ns 0 1 = rowFrom ns 0 (-1))
abbrev sEven : Stmt := top 4
def spEven (K : PySem.W.Frag) : Sp := fun vs H Q _ => ∃ (a : Addr) (ns : List Int), vs = [.ref a] ∧ SqT K H a (ns.map V.int) ∧ 0 < ns.length ∧ ns.length ≤ 100 ∧ ∀ H' : Hp, Same H H' → Q (.bl (evenHanded ns)) H'
theorem scEven : FnScope ["row"] ["row"] (defScope sEven) := ⟨rfl, rfl, rfl, by decide +kernel, rfl, by decide +kernel, by decide +kernel⟩
section
variable {P : Program} {w : World} {K : PySem.W.Frag} {mg : Str → Option Value} {base : Heap}
theorem ok_even {f fR : Addr} {fd fdR : FuncData} (F : Fun K "even_handed" "even_handed" sEven f fd) (R : Def P w K mg base 1 "row_from" ["ring", "place", "step"] (spRow K) fR fdR) : FnOk P w K mg base CX0 2 f fd ["row"] (spEven K) := by
  refine F.ok scEven (fun vs H Q E h => ?_) (fun cdv A outer s H vs Q E hr h => ?_)
  · obtain ⟨a, ns, rfl, _⟩ := h
    rfl
  · refine ⟨_, pss_one (ps_ret (pe_cmpR (op_eqT hr.units) (pe_call R.ok hr rfl R.g R.kp R.b .nil pass0 (pa_cons (pv 0) (pa_cons pe_int (pa_cons pe_int pa_nil))))
      (pe_call R.ok hr rfl R.g R.kp R.b .nil pass0 (pa_cons (pv 0) (pa_cons pe_int (pa_cons (pe_un un_neg pe_int) pa_nil)))) (nomark _))), ?_⟩
    obtain ⟨a, ns, rfl, ha, hp, h100, k⟩ := h
    refine ⟨_, rfl, a, ns, 0, 1, rfl, ha, hp, h100, ⟨by decide, by decide⟩, fun H1 q1 s1 n1 e1 => ?_⟩
    refine ⟨_, rfl, 1, rfl, a, ns, 0, -1, rfl, same_tup s1 ha, hp, h100, ⟨by decide, by decide⟩, fun H2 q2 s2 n2 e2 => ?_⟩
    exact ⟨q1, q2, _, _, rfl, rfl, SqT.of (s2 _ _ e1), SqT.of e2, k H2 (s1.trans s2)⟩
end
/-! ### name_of -/
def nameOf (ns : List Int) : List Int := leastOf ((List.range ns.length).map fun p : Nat => lesserRow ns p)
abbrev sName : Stmt := top 5
def spName (K : PySem.W.Frag) : Sp := fun vs H Q _ => ∃ (a : Addr) (ns : List Int), vs = [.ref a] ∧ SqT K H a (ns.map V.int) ∧ 0 < ns.length ∧ ns.length ≤ 100 ∧
  ∀ (H' : Hp) (q : Addr), Same H H' → H' q = some (.tup ((nameOf ns).map V.int)) → Q (.ref q) H'
theorem scName : FnScope ["ring", "place"] ["ring"] (defScope sName) := ⟨rfl, rfl, rfl, by decide +kernel, rfl, by decide +kernel, by decide +kernel⟩
section
variable {P : Program} {w : World} {K : PySem.W.Frag} {mg : Str → Option Value} {base : Heap}
theorem ok_name {f fL : Addr} {fd fdL : FuncData} (F : Fun K "name_of" "name_of" sName f fd) (O : Own mg) (L : Def P w K mg base 2 "lesser_row" ["ring", "place"] (spLes K) fL fdL) : FnOk P w K mg base CX0 3 f fd ["ring"] (spName K) := by
  refine F.ok scName (fun vs H Q E h => ?_) (fun cdv A outer s H vs Q E hr h => ?_)
  · obtain ⟨a, ns, rfl, _⟩ := h
    rfl
  · refine ⟨_, pss_one (ps_ret (pe_callB (cr_minT rfl hr.in1.units0) (by rfl) O.min (by decide +kernel) (pa_cons
      (pe_lc (own := [("place", 1)]) (g := gName 1) (tt := tYes) rfl scName.nd (pi_range1 rfl O.range (pa_cons (pe_callB call_len_seq (by rfl) O.len PySem.boot_len (pa_cons (pv 0) pa_nil)) pa_nil)) (blkOk_by (N := ["ring", "place"]) (sc := defScope sName) (by decide +kernel))
          (fun _ _ _ _ _ => pg_name (i := 1) scName.nd rfl (Or.inl rfl)) (fun _ _ _ _ _ => pts_nil)
          (fun _ _ _ _ _ => pe_call L.ok hr rfl L.g L.kp L.b .nil pass0 (pa_cons (pv 0) (pa_cons (pv 1) pa_nil)))) pa_nil))), ?_⟩
    obtain ⟨a, ns, rfl, ha, hp, h100, k⟩ := h
    have len : (ns.map V.int).length = ns.length := List.length_map ..
    refine ⟨_, rfl, a, _, rfl, .inr ha, _, rfl, by rw [len]; omega, by rw [len]; omega, fun D hD => ?_⟩
    refine lc_range (lo := 0) (fun i H' => Same H H' ∧ ∃ M : LA, H' D = some (.lst (refs M)) ∧ Tups H' M ∧ M.map (·.2) = (List.range i).map fun p : Nat => lesserRow ns p) ⟨same_new hD, [], upd_same, fun p m => absurd m (by simp), rfl⟩ ?_ ?_
    · rintro i H1 hi ⟨s1, M, hM, tM, eM⟩
      have hi : i < ns.length := by rw [Int.toNat_natCast, len] at hi; exact hi
      refine ⟨rfl, _, rfl, _, rfl, a, ns, _, rfl, same_tup s1 ha, hp, h100, fun H2 q s2 n2 e2 => ?_⟩
      have lM : M.length = i := by
        have := congrArg List.length eM
        simpa using this
      refine ⟨refs M, s2 _ _ hM, ?_, same_upd (s1.trans s2) hD, M ++ [(q, lesserRow ns (0 + (i : Int)))], ?_, ?_, ?_⟩
      · unfold refs
        rw [List.length_map, lM]
        exact Nat.lt_of_lt_of_le hi (Nat.le_trans h100 (by decide))
      · rw [refs_snoc M q (lesserRow ns (0 + (i : Int)))]
        exact upd_same
      · exact ((tM.same s2).snoc e2).upd (s2 _ _ hM)
      · rw [List.map_append, eM, range_snoc, Int.zero_add]
        rfl
    · rintro H1 ⟨s1, M, hM, tM, eM⟩
      rw [Int.toNat_natCast, len] at eM
      have lM : M.length = ns.length := by
        have := congrArg List.length eM
        simpa using this
      refine ⟨D, M, rfl, SqL.of hM, tM, fun z => ?_, fun p m e => ?_⟩
      · rw [z] at lM
        have : (0 : Nat) = ns.length := lM
        omega
      · rw [eM] at e
        exact k H1 p.1 s1 (by rw [show nameOf ns = p.2 from e.symm]; exact tM p m)
end
end RF

/-! ## RFMore -/
namespace RF
open PySem PySem.Spec PyProof.Rows L2
/-! ### with_one_place_more -/
def moreOf (k : Int) (ns : List Int) : List (List Int) := (List.range (k - ns.sum + 1).toNat).map fun h : Nat => ns ++ [(h : Int)]
def oneMore (nss : List (List Int)) (k : Int) : List (List Int) := nss.flatMap (moreOf k)
theorem flat_take {α β : Type} (f : α → List β) : ∀ (l : List α) (i : Nat) {x : α}, l[i]? = some x → (l.take (i + 1)).flatMap f = (l.take i).flatMap f ++ f x
  | [], i, x, h => by simp at h
  | a :: l, 0, x, h => by
    have e : a = x := Option.some.inj h
    subst e
    simp
  | a :: l, i + 1, x, h => by
    have ih := flat_take f l i (x := x) h
    rw [List.take_succ_cons, List.flatMap_cons, ih, List.take_succ_cons, List.flatMap_cons, List.append_assoc]
theorem flat_le {α β : Type} (f : α → List β) (l : List α) (i : Nat) : ((l.take i).flatMap f).length ≤ (l.flatMap f).length := by
  have e : l.flatMap f = (l.take i).flatMap f ++ (l.drop i).flatMap f := by rw [← List.flatMap_append, List.take_append_drop]
  rw [e, List.length_append]
  omega
theorem refs_get {L : LA} {i : Nat} {x : V} (h : (refs L)[i]? = some x) : ∃ p, L[i]? = some p ∧ x = V.ref p.1 := by
  unfold refs at h
  rw [List.getElem?_map] at h
  obtain ⟨p, e, q⟩ := Option.map_eq_some_iff.mp h
  exact ⟨p, e, q.symm⟩
theorem refs_len (L : LA) : (refs L).length = L.length := List.length_map ..
theorem snd_len {L : LA} {nss : List (List Int)} (h : L.map (·.2) = nss) : L.length = nss.length := by
  rw [← h, List.length_map]
abbrev sMore : Stmt := top 6
def spMore (K : PySem.W.Frag) : Sp := fun vs H Q _ => ∃ (a : Addr) (L : LA) (k : Int), vs = [.ref a, .int k] ∧ SqL K H a (refs L) ∧ Tups H L ∧ (0 ≤ k ∧ k ≤ 100) ∧ (∀ p ∈ L, p.2.length ≤ 100 ∧ 0 ≤ p.2.sum ∧ p.2.sum ≤ k) ∧ (oneMore (L.map (·.2)) k).length ≤ 10000 ∧
  ∀ (H' : Hp) (q : Addr) (M : LA), Same H H' → H' q = some (.lst (refs M)) → Tups H' M → M.map (·.2) = oneMore (L.map (·.2)) k → Q (.ref q) H'
theorem scMore : FnScope ["rows", "robots", "longer", "row", "here"] ["rows", "robots"] (defScope sMore) := ⟨rfl, rfl, rfl, by decide +kernel, rfl, by decide +kernel, by decide +kernel⟩
section
variable {P : Program} {w : World} {K : PySem.W.Frag} {mg : Str → Option Value} {base : Heap}
theorem ok_more {f : Addr} {fd : FuncData} (F : Fun K "with_one_place_more" "with_one_place_more" sMore f fd) (O : Own mg) : FnOk P w K mg base CX0 1 f fd ["rows", "robots"] (spMore K) := by
  refine F.ok scMore (fun vs H Q E h => ?_) (fun cdv A outer s H vs Q E hr h => ?_)
  · obtain ⟨a, L, k, rfl, _⟩ := h
    rfl
  · refine ⟨_, pss_cons (ps_set (i := 2) scMore.nd rfl (Or.inl rfl) (pe_lst pa_nil))
      (pss_cons (ps_for PassesOwn.never rfl (pi_list (pv 0)) (pg_name (i := 3) scMore.nd rfl (Or.inl rfl))
        (pss_one (ps_for PassesOwn.never rfl (pi_range1 rfl O.range (pa_cons (pe_op op_add (pe_op op_sub (pv 1) (pe_callB (cr_sumT rfl) (by rfl) O.sum (by decide +kernel) (pa_cons (pv 3) pa_nil))) pe_int) pa_nil)) (pg_name (i := 4) scMore.nd rfl (Or.inl rfl))
          (pss_one (ps_expr (pe_bm PySem.F.plainAttrs_list PySem.F.slot_list_append PySem.F.type_list_append mt_append (pv 2) (pa_cons (pe_op op_catA (pv 3) (pe_tup (pa_cons (pv 4) pa_nil))) pa_nil)))))))
      (pss_one (ps_ret (pv 2)))), ?_⟩
    obtain ⟨a, L, k, rfl, ha, hL, hk, hp, hbig, q⟩ := h
    refine ⟨Nat.zero_le _, fun D hD => ?_⟩
    have two : (10000 : Nat) < sizeLine := by decide
    refine ⟨_, rfl, a, rfl, ⟨_, (same_new hD).seq ha⟩, for_list (K := K) (a := a) (xs := refs L) (fun i σ H' => ∃ (u v : Option V) (M : LA), σ = [some (.ref a), some (.int k), some (.ref D), u, v] ∧ Same H H' ∧ H' D = some (.lst (refs M)) ∧ Tups H' M ∧ M.map (·.2) = oneMore ((L.map (·.2)).take i) k)
      ⟨none, none, [], rfl, same_new hD, upd_same, fun p m => absurd m (by simp), rfl⟩ (fun i σ H' _ ⟨_, _, _, _, s1, _⟩ => s1.seq ha) ?_ ?_⟩
    · rintro i x σ H1 hi ⟨u, v, M, rfl, s1, hM, tM, eM⟩
      obtain ⟨p, pi, rfl⟩ := refs_get hi
      have pm : p ∈ L := List.mem_of_getElem? pi
      have pi2 : (L.map (·.2))[i]? = some p.2 := by rw [List.getElem?_map, pi]; rfl
      obtain ⟨p1, p2, p3⟩ := hp p pm
      refine ⟨_, rfl, _, rfl, p.1, p.2, rfl, SqT.of (s1 _ _ (hL p pm)), _, _, rfl, rfl, _, _, rfl, rfl, _, rfl, by omega, by omega, ?_⟩
      have room : (oneMore ((L.map (·.2)).take i) k).length + (k - p.2.sum + 1).toNat ≤ 10000 := by
        have z := flat_le (moreOf k) (L.map (·.2)) (i + 1)
        rw [flat_take (moreOf k) (L.map (·.2)) i pi2, List.length_append] at z
        have y : (moreOf k p.2).length = (k - p.2.sum + 1).toNat := by unfold moreOf; simp
        unfold oneMore at hbig ⊢
        omega
      refine for_range (lo := 0) (fun j σ H' => ∃ (v : Option V) (M : LA), σ = [some (.ref a), some (.int k), some (.ref D), some (.ref p.1), v] ∧ Same H H' ∧ H' D = some (.lst (refs M)) ∧ Tups H' M ∧ M.map (·.2) = oneMore ((L.map (·.2)).take i) k ++ (List.range j).map fun h : Nat => p.2 ++ [(h : Int)])
        ⟨v, M, rfl, s1, hM, tM, by rw [eM]; simp⟩ ?_ ?_
      · rintro j σ H2 hj ⟨v, N, rfl, s2, hN, tN, eN⟩
        have lN := snd_len eN
        rw [List.length_append, List.length_map, List.length_range] at lN
        refine ⟨_, rfl, .inl ⟨rfl, _, SqL.of hN⟩, _, rfl, _, rfl, by show 1 ≤ sizeLine; decide, fun t ht => ?_⟩
        have sT : Same H2 (upd H2 t (.tup [V.int (0 + (j : Int))])) := same_new ht
        have go : ∀ (H3 : Hp) (t' : Addr), Same H2 H3 → H3 t' = some (.tup ((p.2 ++ [(j : Int)]).map V.int)) → rAppend (.ref D) [.ref t'] H3 (fun _ H4 => ∃ (v : Option V) (M : LA), [some (V.ref a), some (.int k), some (.ref D), some (.ref p.1), some (.int (0 + (j : Int)))] = [some (.ref a), some (.int k), some (.ref D), some (.ref p.1), v] ∧ Same H H4 ∧ H4 D = some (.lst (refs M)) ∧ Tups H4 M ∧ M.map (·.2) = oneMore ((L.map (·.2)).take i) k ++ (List.range (j + 1)).map fun h : Nat => p.2 ++ [(h : Int)]) := fun H3 t' s3 e3 => by
          refine ⟨D, refs N, .ref t', rfl, rfl, s3 _ _ hN, by rw [refs_len]; omega, _, N ++ [(t', p.2 ++ [(j : Int)])], rfl, same_upd (s2.trans s3) hD, ?_, ?_, ?_⟩
          · rw [refs_snoc N t' (p.2 ++ [(j : Int)])]; exact upd_same
          · exact ((tN.same s3).snoc e3).upd (s3 _ _ hN)
          · rw [List.map_append, eN, range_snoc, List.append_assoc]; rfl
        refine ⟨p.1, t, _, _, rfl, rfl, SqT.of (sT _ _ (s2 _ _ (hL p pm))), SqT.of upd_same, ?_, fun e => ?_, (fun _ e => by cases e), fun ne _ t2 ht2 => ?_⟩
        · rw [List.length_map]
          have : (101 : Nat) ≤ sizeLine := by decide
          show p.2.length + 1 ≤ sizeLine
          omega
        · have e0 : p.2 = [] := List.map_eq_nil_iff.mp e
          refine go _ t sT ?_
          rw [upd_same, e0, Int.zero_add]
          rfl
        · refine go _ t2 (sT.trans (same_new ht2)) ?_
          rw [upd_same, List.map_append, Int.zero_add]
          rfl
      · rintro σ H2 ⟨v, N, rfl, s2, hN, tN, eN⟩
        refine ⟨_, v, N, rfl, s2, hN, tN, ?_⟩
        rw [eN]
        unfold oneMore
        rw [flat_take (moreOf k) (L.map (·.2)) i pi2]
        rfl
    · rintro σ H1 ⟨u, v, M, rfl, s1, hM, tM, eM⟩
      rw [refs_len, List.take_of_length_le (by rw [List.length_map]; exact Nat.le_refl _)] at eM
      exact ⟨_, rfl, q H1 D M s1 hM tM eM⟩
end
end RF

/-! ## RFNames -/
namespace RF
open PySem PySem.Spec PyProof.Rows L2
/-! ### names_of -/
def rowsAt (k : Int) : Nat → List (List Int)
  | 0 => [[]]
  | i + 1 => oneMore (rowsAt k i) k
def isName (k : Int) (r : List Int) : Bool := decide (r.sum = k) && decide (r = nameOf r)
def namesOf (n : Nat) (k : Int) : List (List Int) := sortT ((rowsAt k n).filter (isName k))
/-- what is asked of how many robots, of the rows so far -/
def rowsOk (k : Int) (i : Nat) : Bool := ((rowsAt k i).all fun r => decide (r.length = i) && decide (0 ≤ r.sum) && decide (r.sum ≤ k) && r.all fun x => decide (0 ≤ x) && decide (x ≤ 3)) && decide ((rowsAt k i).length ≤ 1000) && !(rowsAt k i).isEmpty && decide ((oneMore (rowsAt k i) k).length ≤ 10000)
theorem rows_ok : ∀ i, i < 8 → rowsOk 1 i = true ∧ rowsOk 2 i = true ∧ rowsOk 3 i = true := by decide +kernel
theorem names_few : ∀ i, i < 8 → ((rowsAt 1 i).filter (isName 1)).length < 64 ∧ ((rowsAt 2 i).filter (isName 2)).length < 64 ∧ ((rowsAt 3 i).filter (isName 3)).length < 64 := by decide +kernel
theorem one_of {k : Int} (h : 1 ≤ k ∧ k ≤ 3) : k = 1 ∨ k = 2 ∨ k = 3 := by omega
theorem rows_at {k : Int} {i : Nat} (h : 1 ≤ k ∧ k ≤ 3) (hi : i < 8) : rowsOk k i = true := by
  rcases one_of h with rfl | rfl | rfl
  · exact (rows_ok i hi).1
  · exact (rows_ok i hi).2.1
  · exact (rows_ok i hi).2.2
theorem few_at {k : Int} {i : Nat} (h : 1 ≤ k ∧ k ≤ 3) (hi : i < 8) : ((rowsAt k i).filter (isName k)).length < 64 := by
  rcases one_of h with rfl | rfl | rfl
  · exact (names_few i hi).1
  · exact (names_few i hi).2.1
  · exact (names_few i hi).2.2
structure RowsIn (k : Int) (i : Nat) : Prop where
  each : ∀ r ∈ rowsAt k i, r.length = i ∧ 0 ≤ r.sum ∧ r.sum ≤ k ∧ ∀ x ∈ r, 0 ≤ x ∧ x ≤ 3
  few : (rowsAt k i).length ≤ 1000
  some : rowsAt k i ≠ []
  more : (oneMore (rowsAt k i) k).length ≤ 10000
theorem rows_in {k : Int} {i : Nat} (h : 1 ≤ k ∧ k ≤ 3) (hi : i < 8) : RowsIn k i := by
  have z := rows_at h hi
  unfold rowsOk at z
  simp only [Bool.and_eq_true, List.all_eq_true, decide_eq_true_eq, Bool.not_eq_true', List.isEmpty_eq_false_iff] at z
  obtain ⟨⟨⟨z1, z2⟩, z3⟩, z4⟩ := z
  exact ⟨fun r m => ⟨(z1 r m).1.1.1, (z1 r m).1.1.2, (z1 r m).1.2, (z1 r m).2⟩, z2, z3, z4⟩
abbrev sNames : Stmt := top 7
def spNames : Sp := fun vs H Q _ => ∃ (n : Nat) (k : Int), vs = [.int n, .int k] ∧ (1 ≤ n ∧ n ≤ 7) ∧ (1 ≤ k ∧ k ≤ 3) ∧
  ∀ (H' : Hp) (q : Addr) (M : LA), Same H H' → H q = none → H' q = some (.lst (refs M)) → Tups H' M → M.map (·.2) = namesOf n k → Q (.ref q) H'
theorem scNames : FnScope ["places", "robots", "rows", "row"] ["places", "robots"] (defScope sNames) := ⟨rfl, rfl, rfl, by decide +kernel, rfl, by decide +kernel, by decide +kernel⟩
theorem take_filter {α : Type} (p : α → Bool) {l : List α} {i : Nat} {x : α} (h : l[i]? = some x) : (l.take (i + 1)).filter p = (l.take i).filter p ++ (if p x then [x] else []) := by
  have hi : i < l.length := (List.getElem?_eq_some_iff.mp h).1
  have e : l[i] = x := (List.getElem?_eq_some_iff.mp h).2
  rw [List.take_succ_eq_append_getElem hi, List.filter_append, e]
  cases q : p x <;> simp [List.filter, q]
section
variable {P : Program} {w : World} {K : PySem.W.Frag} {mg : Str → Option Value} {base : Heap}
theorem ok_names {f fM fN : Addr} {fd fdM fdN : FuncData} (F : Fun K "names_of" "names_of" sNames f fd) (O : Own mg) (M : Def P w K mg base 1 "with_one_place_more" ["rows", "robots"] (spMore K) fM fdM) (N : Def P w K mg base 3 "name_of" ["ring"] (spName K) fN fdN) :
    FnOk P w K mg base CX0 4 f fd ["places", "robots"] spNames := by
  refine F.ok scNames (fun vs H Q E h => ?_) (fun cdv A outer s H vs Q E hr h => ?_)
  · obtain ⟨n, k, rfl, _⟩ := h
    rfl
  · obtain ⟨n, k, rfl, hn, hk, q⟩ := h
    refine ⟨_, pss_cons (ps_set (i := 2) scNames.nd rfl (Or.inl rfl) (pe_lst (pa_cons (pe_tup pa_nil) pa_nil)))
      (pss_cons (ps_while PassesOwn.never (pt_cmpR op_lt (pe_callB call_len_seq (by rfl) O.len PySem.boot_len (pa_cons (pe_ix ix_list (pv 2) pe_int (fun _ _ => rfl)) pa_nil)) (pv 0) (nomark _))
        (pss_one (ps_set (i := 2) scNames.nd rfl (Or.inl rfl) (pe_call M.ok (hr.mono (by decide)) rfl M.g M.kp M.b .nil pass0 (pa_cons (pv 2) (pa_cons (pv 1) pa_nil))))))
      (pss_one (ps_ret (pe_callB (cr_sortL (d := n) (B := 4) hn.1) (by rfl) O.sorted (by decide +kernel) (pa_cons
        (pe_lc (own := [("row", 3)]) (g := gName 3) rfl scNames.nd (pi_list (pv 2)) (blkOk_by (N := ["places", "robots", "rows", "row"]) (sc := defScope sNames) (by decide +kernel))
          (fun _ _ _ _ _ => pg_name (i := 3) scNames.nd rfl (Or.inl rfl))
          (fun _ _ _ _ _ => pts_one (PW.pt (pw_and (pt_cmpR op_eq (pe_callB (r := rSumT K) (cr_sumT rfl) (by rfl) O.sum (by decide +kernel) (pa_cons (pv 3) pa_nil)) (pv 1) (nomark _)) (pw_and1 (pt_cmpR (r := rEqT K) (op_eqT hr.units) (pv 3) (pe_call N.ok hr rfl N.g N.kp N.b .nil pass0 (pa_cons (pv 3) pa_nil)) (nomark _))))))
          (fun _ _ _ _ _ => pv 3)) pa_nil))))), ?_⟩
    refine ⟨by show 0 ≤ sizeLine; decide, fun t ht => ⟨by show 1 ≤ sizeLine; decide, fun D hD => ?_⟩⟩
    have sD : Same H (upd (upd H t (.tup [])) D (.lst [.ref t])) := (same_new ht).trans (same_new hD)
    refine ⟨fun m σ H' => ∃ (i : Nat) (a : Addr) (L : LA), m = n - i ∧ i ≤ n ∧ σ = [some (.int n), some (.int k), some (.ref a), none] ∧ Same H H' ∧ H' a = some (.lst (refs L)) ∧ Tups H' L ∧ L.map (·.2) = rowsAt k i, ⟨n - 0, 0, D, [(t, [])], rfl, Nat.zero_le _, rfl, sD, upd_same, fun p m => ?_, rfl⟩, ?_⟩
    · rw [List.mem_singleton.mp m, upd_ne (fun z => ?_), upd_same]
      · rfl
      · have z : t = D := z
        rw [← z, upd_same] at hD
        cases hD
    · rintro m σ H1 ⟨i, a, L, rfl, hi, rfl, s1, ha, tL, eL⟩
      have R : RowsIn k i := rows_in hk (by omega)
      cases L with
      | nil => exact absurd eL.symm R.some
      | cons p L =>
        have pm : p ∈ p :: L := List.mem_cons_self
        have pr : p.2 ∈ rowsAt k i := by rw [← eL]; exact List.mem_map_of_mem pm
        have p1 := (R.each p.2 pr).1
        refine ⟨_, rfl, a, _, 0, .ref p.1, rfl, rfl, SqL.of ha, atI_nat (j := 0) rfl, p.1, p.2.map V.int, rfl, .inr (SqT.of (tL p pm)), _, rfl, _, _, rfl, rfl, _, rfl, ?_⟩
        rw [List.length_map, p1]
        refine ite2 (fun c => ?_) (fun c => ?_)
        · have c : i < n := by have := of_decide_eq_true c; omega
          refine ⟨_, fun σ' H' z => z, ?_⟩
          refine ⟨_, rfl, _, rfl, a, p :: L, k, rfl, SqL.of ha, tL, ⟨by omega, by omega⟩, fun r m => ?_, ?_, fun H2 b L2 s2 hb tb eb => ?_⟩
          · have rr : r.2 ∈ rowsAt k i := by rw [← eL]; exact List.mem_map_of_mem m
            obtain ⟨r1, r2, r3, _⟩ := R.each r.2 rr
            exact ⟨by omega, r2, r3⟩
          · rw [eL]; exact R.more
          · exact ⟨n - (i + 1), by omega, i + 1, b, L2, rfl, c, rfl, s1.trans s2, hb, tb, by rw [eb, eL]; rfl⟩
        · have c : i = n := by
            have : ¬ ((i : Int) < (n : Int)) := fun z => c (decide_eq_true z)
            omega
          subst c
          have each : ∀ r ∈ p :: L, r.2.length = i ∧ ∀ x ∈ r.2, 0 ≤ x ∧ x ≤ 3 := fun r m => by
            obtain ⟨r1, _, _, r4⟩ := R.each r.2 (by rw [← eL]; exact List.mem_map_of_mem m)
            exact ⟨r1, r4⟩
          generalize p :: L = Lf at *
          refine ⟨_, rfl, a, rfl, ⟨_, SqL.of ha⟩, fun D' hD' => ?_⟩
          refine lc_list (K := K) (a := a) (xs := refs Lf) (fun j H' => Same H1 H' ∧ H' D' = some (.lst (refs ((Lf.take j).filter fun x => isName k x.2)))) ⟨same_new hD', by rw [upd_same]; rfl⟩ (fun j H' _ z => z.1.seq (SqL.of ha)) ?_ ?_
          · rintro j x H2 hj ⟨s2, h2⟩
            obtain ⟨r, ri, rfl⟩ := refs_get hj
            have rm : r ∈ Lf := List.mem_of_getElem? ri
            obtain ⟨r1, r2⟩ := each r rm
            have more := take_filter (fun x : Addr × List Int => isName k x.2) ri
            have keep : isName k r.2 = true → ∀ H3 : Hp, Same H2 H3 → ∃ acc, H3 D' = some (.lst acc) ∧ acc.length < sizeLine ∧ (Same H1 (upd H3 D' (.lst (acc ++ [V.ref r.1]))) ∧ upd H3 D' (.lst (acc ++ [V.ref r.1])) D' = some (.lst (refs ((Lf.take (j + 1)).filter fun x => isName k x.2)))) := fun c H3 s3 => by
              refine ⟨_, s3 _ _ h2, ?_, same_upd (s2.trans s3) hD', ?_⟩
              · rw [refs_len]
                have z1 := List.length_filter_le (fun x : Addr × List Int => isName k x.2) (Lf.take j)
                have z2 : (Lf.take j).length ≤ Lf.length := by rw [List.length_take]; omega
                have z3 := snd_len eL
                have z4 := R.few
                have z5 : (1000 : Nat) < sizeLine := by decide
                omega
              · rw [upd_same, more, if_pos c, refs_snoc _ r.1 r.2]
            have drop : isName k r.2 = false → ∀ H3 : Hp, Same H2 H3 → Same H1 H3 ∧ H3 D' = some (.lst (refs ((Lf.take (j + 1)).filter fun x => isName k x.2))) := fun c H3 s3 => by
              refine ⟨s2.trans s3, ?_⟩
              rw [more, if_neg (by rw [c]; exact Bool.false_ne_true), List.append_nil]
              exact s3 _ _ h2
            have tR := SqT.of (K := K) (s2 _ _ (tL r rm))
            refine ⟨rfl, _, rfl, r.1, r.2, rfl, tR, _, rfl, rfl, _, rfl, ?_⟩
            rw [dec_int]
            by_cases c : r.2.sum = k
            · rw [show (r.2.sum == k) = true from beq_iff_eq.mpr c]
              refine iteT ⟨_, rfl, _, rfl, r.1, r.2, rfl, tR, by omega, by omega, fun H3 b s3 e3 => ?_⟩
              refine ⟨r.1, b, r.2, nameOf r.2, rfl, rfl, same_tup s3 tR, SqT.of e3, _, rfl, ?_⟩
              by_cases c2 : r.2 = nameOf r.2
              · have cc : isName k r.2 = true := by unfold isName; rw [decide_eq_true c, decide_eq_true c2]; rfl
                rw [decide_eq_true c2]
                exact iteT ⟨_, rfl, keep cc H3 s3⟩
              · have cc : isName k r.2 = false := by unfold isName; rw [decide_eq_true c, decide_eq_false c2]; rfl
                rw [decide_eq_false c2]
                exact iteF (drop cc H3 s3)
            · have cc : isName k r.2 = false := by unfold isName; rw [decide_eq_false c]; rfl
              rw [show (r.2.sum == k) = false from beq_eq_false_iff_ne.mpr c]
              exact iteF (iteF (drop cc H2 (Same.refl _)))
          · rintro H2 ⟨s2, h2⟩
            rw [refs_len, List.take_length] at h2
            have sub : ∀ x ∈ Lf.filter (fun x => isName k x.2), x ∈ Lf := fun x m => (List.mem_filter.mp m).1
            have ed : (Lf.filter fun x => isName k x.2).map (·.2) = (rowsAt k i).filter (isName k) := by
              rw [← eL, List.filter_map]
              rfl
            refine ⟨D', _, rfl, SqL.of h2, fun x m => s2 _ _ (tL x (sub x m)), ?_, fun x m => ⟨(each x (sub x m)).1, fun y hy => ?_⟩, fun M' b pm eM hb => ?_⟩
            · rw [snd_len ed]
              exact few_at hk (by omega)
            · have := (each x (sub x m)).2 y hy
              omega
            · refine q _ b M' ((s1.trans s2).trans (same_new hb)) ((s1.trans s2).free hb) upd_same (fun x m => ?_) (by rw [eM, ed]; rfl)
              have xm := sub x (pm.mem_iff.mp m)
              exact (same_new hb) _ _ (s2 _ _ (tL x xm))
end
end RF

/-! ## RFViews -/
namespace RF
open PySem PySem.Spec PyProof.Rows L2
/-! ### seen -/
def highest (e : Nat) : Int := [3, 2, 1].getD e 0
def seenBy (e : Nat) (ns : List Int) : List Int := ns.map fun x => if highest e < x then highest e else x
/-- HIGHEST_SEEN, as the top has left it -/
structure High (K : PySem.W.Frag) (mg : Str → Option Value) (c : Addr) : Prop where
  g : mg "HIGHEST_SEEN" = some (.ref c)
  at_ : ∀ H : Hp, SqT K H c [.int 3, .int 2, .int 1]
abbrev sSeen : Stmt := top 8
def spSeen (K : PySem.W.Frag) : Sp := fun vs H Q _ => ∃ (a : Addr) (ns : List Int) (e : Nat), vs = [.ref a, .int e] ∧ SqT K H a (ns.map V.int) ∧ ns.length ≤ 100 ∧ e ≤ 2 ∧
  ∀ (H' : Hp) (q : Addr), Same H H' → H q = none → H' q = some (.tup ((seenBy e ns).map V.int)) → Q (.ref q) H'
theorem scSeen : FnScope ["ring", "eyes", "robots"] ["ring", "eyes"] (defScope sSeen) := ⟨rfl, rfl, rfl, by decide +kernel, rfl, by decide +kernel, by decide +kernel⟩
section
variable {P : Program} {w : World} {K : PySem.W.Frag} {mg : Str → Option Value} {base : Heap}
theorem ok_seen {f c : Addr} {fd : FuncData} (F : Fun K "seen" "seen" sSeen f fd) (O : Own mg) (C : High K mg c) : FnOk P w K mg base CX0 1 f fd ["ring", "eyes"] (spSeen K) := by
  refine F.ok scSeen (fun vs H Q E h => ?_) (fun cdv A outer s H vs Q E hr h => ?_)
  · obtain ⟨a, ns, e, rfl, _⟩ := h
    rfl
  · refine ⟨_, pss_one (ps_ret (pe_callTy call_tuple_of (by rfl) O.tuple (by decide +kernel) (pa_cons
        (pe_lc (own := [("robots", 2)]) (g := gName 2) (tt := tYes) rfl scSeen.nd (pi_tup (pv 0)) (blkOk_by (N := ["ring", "eyes", "robots"]) (sc := defScope sSeen) (by decide +kernel))
          (fun _ _ _ _ _ => pg_name (i := 2) scSeen.nd rfl (Or.inl rfl)) (fun _ _ _ _ _ => pts_nil)
          (fun _ _ _ _ _ => pe_callB (call_min2 rfl) (by rfl) O.min (by decide +kernel) (pa_cons (pv 2) (pa_cons (pe_ix (r := rIxT K) ix_tup (pe_glob (v := .ref c) rfl C.g rfl) (pv 1) (fun _ _ => rfl)) pa_nil)))) pa_nil))), ?_⟩
    obtain ⟨a, ns, e, rfl, ha, h100, he, k⟩ := h
    refine ⟨_, rfl, a, rfl, ⟨_, ha⟩, fun D hD => ?_⟩
    refine lc_tup (K := K) (a := a) (xs := ns.map V.int) (fun i H' => H' = upd H D (.lst (((seenBy e ns).take i).map V.int))) rfl (fun i H' _ z => by rw [z]; exact same_tup (same_new hD) ha) ?_ ?_
    · rintro i x H1 hi rfl
      rw [List.getElem?_map] at hi
      obtain ⟨y, hy, rfl⟩ := Option.map_eq_some_iff.mp hi
      have hc : atI [V.int 3, V.int 2, V.int 1] (e : Int) = some (V.int (highest e)) := by
        refine atI_nat ?_
        have : e = 0 ∨ e = 1 ∨ e = 2 := by omega
        rcases this with rfl | rfl | rfl <;> rfl
      have more : (seenBy e ns).take (i + 1) = (seenBy e ns).take i ++ [if highest e < y then highest e else y] := by
        have g : (seenBy e ns)[i]? = some (if highest e < y then highest e else y) := by unfold seenBy; rw [List.getElem?_map, hy]; rfl
        have hl := (List.getElem?_eq_some_iff.mp g).1
        rw [List.take_succ_eq_append_getElem hl, (List.getElem?_eq_some_iff.mp g).2]
      refine ⟨rfl, _, rfl, _, rfl, c, _, _, _, rfl, rfl, C.at_ _, hc, _, _, rfl, _, upd_same, ?_, ?_⟩
      · rw [List.length_map, List.length_take]
        unfold seenBy
        have : (100 : Nat) < sizeLine := by decide
        rw [List.length_map]
        omega
      · rw [more, List.map_append, upd_upd]
        rfl
    · rintro H1 rfl
      rw [List.length_map, List.take_of_length_le (by unfold seenBy; simp)]
      have s1 : Same H (upd H D (.lst ((seenBy e ns).map V.int))) := same_new hD
      exact ⟨D, _, rfl, .inl ⟨SqL.of upd_same, fun l hl => k _ l (s1.trans (same_new hl)) (s1.free hl) upd_same⟩⟩
end
end RF

/-! ## RFViewsIn -/
namespace RF
open PySem PySem.Spec PyProof.Rows L2
/-! ### views_in -/
def viewTurn (ns looks : List Int) (acc : List (List Int)) (p : Nat) : List (List Int) := if 0 < ns.getD p 0 ∧ lesserRow looks p ∉ acc then acc ++ [lesserRow looks p] else acc
def viewsUp (ns looks : List Int) (i : Nat) : List (List Int) := (List.range i).foldl (viewTurn ns looks) []
def viewsIn (e : Nat) (ns : List Int) : List (List Int) := viewsUp ns (seenBy e ns) ns.length
theorem views_up (ns looks : List Int) (i : Nat) : viewsUp ns looks (i + 1) = viewTurn ns looks (viewsUp ns looks i) i := by
  unfold viewsUp
  rw [List.range_succ, List.foldl_append]
  rfl
theorem views_len (ns looks : List Int) : ∀ i, (viewsUp ns looks i).length ≤ i
  | 0 => Nat.le_refl _
  | i + 1 => by
    have := views_len ns looks i
    rw [views_up]
    unfold viewTurn
    split
    · rw [List.length_append, List.length_singleton]; omega
    · omega
theorem seen_len (e : Nat) (ns : List Int) : (seenBy e ns).length = ns.length := List.length_map ..
abbrev sVin : Stmt := top 9
def spVin (K : PySem.W.Frag) : Sp := fun vs H Q _ => ∃ (a : Addr) (ns : List Int) (e : Nat), vs = [.ref a, .int e] ∧ SqT K H a (ns.map V.int) ∧ 0 < ns.length ∧ ns.length ≤ 100 ∧ e ≤ 2 ∧
  ∀ (H' : Hp) (q : Addr) (M : LA), Same H H' → H q = none → H' q = some (.lst (refs M)) → Tups H' M → M.map (·.2) = viewsIn e ns → Q (.ref q) H'
theorem scVin : FnScope ["ring", "eyes", "looks", "views", "place", "view"] ["ring", "eyes"] (defScope sVin) := ⟨rfl, rfl, rfl, by decide +kernel, rfl, by decide +kernel, by decide +kernel⟩
section
variable {P : Program} {w : World} {K : PySem.W.Frag} {mg : Str → Option Value} {base : Heap}
theorem ok_vin {f fS fL : Addr} {fd fdS fdL : FuncData} (F : Fun K "views_in" "views_in" sVin f fd) (O : Own mg) (S : Def P w K mg base 1 "seen" ["ring", "eyes"] (spSeen K) fS fdS) (L : Def P w K mg base 2 "lesser_row" ["ring", "place"] (spLes K) fL fdL) :
    FnOk P w K mg base CX0 3 f fd ["ring", "eyes"] (spVin K) := by
  refine F.ok scVin (fun vs H Q E h => ?_) (fun cdv A outer s H vs Q E hr h => ?_)
  · obtain ⟨a, ns, e, rfl, _⟩ := h
    rfl
  · have hu65 : A.units + 3 + 65 < cLine := by have := hr.un; show _ < _; change A.units + 3 + 16 * 2 + 200 < cLine at this; omega
    refine ⟨_, pss_cons (ps_set (i := 2) scVin.nd rfl (Or.inl rfl) (pe_call S.ok (hr.mono (by decide)) rfl S.g S.kp S.b .nil pass0 (pa_cons (pv 0) (pa_cons (pv 1) pa_nil))))
      (pss_cons (ps_set (i := 3) scVin.nd rfl (Or.inl rfl) (pe_lst pa_nil))
      (pss_cons (ps_for PassesOwn.never rfl (pi_range1 rfl O.range (pa_cons (pe_callB call_len_seq (by rfl) O.len PySem.boot_len (pa_cons (pv 0) pa_nil)) pa_nil)) (pg_name (i := 4) scVin.nd rfl (Or.inl rfl))
        (pss_cons (ps_set (i := 5) scVin.nd rfl (Or.inl rfl) (pe_call L.ok hr rfl L.g L.kp L.b .nil pass0 (pa_cons (pv 2) (pa_cons (pv 4) pa_nil))))
          (pss_one (ps_if (PW.pt (pw_and (pt_cmpR op_gt (pe_ix ix_tup (pv 0) (pv 4) (fun _ _ => rfl)) pe_int (nomark _)) (pw_and1 (pt_cmpR (op_notInT hu65) (pv 5) (pv 3) rfl))))
            (pss_one (ps_expr (pe_bm PySem.F.plainAttrs_list PySem.F.slot_list_append PySem.F.type_list_append mt_append (pv 3) (pa_cons (pv 5) pa_nil)))) pss_nil))))
      (pss_one (ps_ret (pv 3))))), ?_⟩
    obtain ⟨a, ns, e, rfl, ha, hp, h100, he, k⟩ := h
    have len : (ns.map V.int).length = ns.length := List.length_map ..
    refine ⟨_, rfl, _, rfl, a, ns, e, rfl, ha, h100, he, fun H0 t s0 n0 e0 => ?_⟩
    refine ⟨Nat.zero_le _, fun D hD => ?_⟩
    have hDn : H D = none := s0.free hD
    have big : (100 : Nat) < sizeLine := by decide
    refine ⟨_, rfl, a, _, rfl, .inr (same_tup (s0.trans (same_new hD)) ha), _, rfl, by rw [len]; omega, by rw [len]; omega, ?_⟩
    refine for_range (lo := 0) (fun i σ H' => ∃ (u v : Option V) (M : LA), σ = [some (.ref a), some (.int e), some (.ref t), some (.ref D), u, v] ∧ Same H0 H' ∧ H' D = some (.lst (refs M)) ∧ Tups H' M ∧ M.map (·.2) = viewsUp ns (seenBy e ns) i)
      ⟨none, none, [], rfl, same_new hD, upd_same, fun p m => absurd m (by simp), rfl⟩ ?_ ?_
    · rintro i σ H1 hi ⟨u, v, M, rfl, s1, hM, tM, eM⟩
      have hi : i < ns.length := by rw [Int.toNat_natCast, len] at hi; exact hi
      have lM := snd_len eM
      have lV := views_len ns (seenBy e ns) i
      refine ⟨_, rfl, _, rfl, t, seenBy e ns, _, rfl, SqT.of (s1 _ _ e0), by rw [seen_len]; exact hp, by rw [seen_len]; exact h100, fun H2 q s2 n2 e2 => ?_⟩
      rw [Int.zero_add] at e2
      have g : (ns.map V.int)[i]? = some (V.int (ns.getD i 0)) := by
        rw [List.getElem?_map, List.getD_eq_getElem?_getD, List.getElem?_eq_getElem hi]; rfl
      have sA := (s0.trans s1).trans s2
      refine ⟨_, rfl, _, rfl, a, _, _, _, rfl, rfl, same_tup sA ha, by rw [Int.zero_add]; exact atI_nat g, _, _, rfl, rfl, _, rfl, ?_⟩
      have up := views_up ns (seenBy e ns) i
      unfold viewTurn at up
      have stay : viewsUp ns (seenBy e ns) (i + 1) = viewsUp ns (seenBy e ns) i → ∃ (u v : Option V) (N : LA), [some (V.ref a), some (.int e), some (.ref t), some (.ref D), some (.int (0 + (i : Int))), some (.ref q)] = [some (.ref a), some (.int e), some (.ref t), some (.ref D), u, v] ∧ Same H0 H2 ∧ H2 D = some (.lst (refs N)) ∧ Tups H2 N ∧ N.map (·.2) = viewsUp ns (seenBy e ns) (i + 1) := fun z =>
        ⟨_, _, M, rfl, s1.trans s2, s2 _ _ hM, tM.same s2, by rw [z]; exact eM⟩
      by_cases c : 0 < ns.getD i 0
      · rw [decide_eq_true c]
        refine iteT ⟨_, rfl, _, rfl, q, D, lesserRow (seenBy e ns) i, M, rfl, rfl, SqT.of e2, SqL.of (s2 _ _ hM), tM.same s2, _, rfl, ?_⟩
        rw [eM]
        by_cases c2 : lesserRow (seenBy e ns) i ∈ viewsUp ns (seenBy e ns) i
        · rw [decide_eq_true c2]
          rw [if_neg (fun z => z.2 c2)] at up
          exact iteF (stay up)
        · rw [decide_eq_false c2]
          rw [if_pos ⟨c, c2⟩] at up
          refine iteT ⟨_, rfl, .inl ⟨rfl, _, SqL.of (s2 _ _ hM)⟩, _, rfl, D, _, _, rfl, rfl, s2 _ _ hM, by rw [refs_len]; omega, _, _, M ++ [(q, lesserRow (seenBy e ns) i)], rfl, same_upd (s1.trans s2) hD, ?_, ?_, ?_⟩
          · rw [refs_snoc M q (lesserRow (seenBy e ns) i)]; exact upd_same
          · exact ((tM.same s2).snoc e2).upd (s2 _ _ hM)
          · rw [List.map_append, eM, up]; rfl
      · rw [decide_eq_false c]
        rw [if_neg (fun z => c z.1)] at up
        exact iteF (iteF (stay up))
    · rintro σ H1 ⟨u, v, M, rfl, s1, hM, tM, eM⟩
      rw [Int.toNat_natCast, len] at eM
      exact ⟨_, rfl, k H1 D M (s0.trans s1) hDn hM tM eM⟩
end
end RF

/-! ## RFViewsOf -/
namespace RF
open PySem PySem.Spec PyProof.Rows L2
/-! ### views_of -/
def putKey (acc : List (List Int)) (v : List Int) : List (List Int) := if v ∈ acc then acc else acc ++ [v]
def keysOf (e : Nat) (nss : List (List Int)) : List (List Int) := nss.foldl (fun acc ns => (viewsIn e ns).foldl putKey acc) []
def viewsOf (e : Nat) (nss : List (List Int)) : List (List Int) := sortT (keysOf e nss)
theorem kI_inj {a b : List Int} (h : kI a = kI b) : a = b := by
  unfold kI at h
  exact (List.map_inj_right (fun x y z => Sum.inl.inj z)).mp h
theorem putK_keys (v : V) (x : List Int) (kvs : List (List Key × V)) (acc : List (List Int)) (h : kvs.map (·.1) = acc.map kI) : (putK kvs (kI x) v).map (·.1) = (putKey acc x).map kI := by
  have mem : (kvs.any fun kv => decide (kv.1 = kI x)) = decide (x ∈ acc) := by
    rw [Bool.eq_iff_iff]
    simp only [List.any_eq_true, decide_eq_true_eq]
    constructor
    · rintro ⟨kv, m, e⟩
      have : kI x ∈ acc.map kI := by rw [← h, ← e]; exact List.mem_map_of_mem m
      obtain ⟨y, my, ey⟩ := List.mem_map.mp this
      rw [← kI_inj ey]
      exact my
    · intro m
      have : kI x ∈ kvs.map (·.1) := by rw [h]; exact List.mem_map_of_mem m
      obtain ⟨kv, m2, e⟩ := List.mem_map.mp this
      exact ⟨kv, m2, e⟩
  unfold putK putKey
  rw [mem]
  by_cases c : x ∈ acc
  · rw [decide_eq_true c, if_pos rfl, if_pos c, ← h, List.map_map]
    refine List.map_congr_left fun kv _ => ?_
    show (if kv.1 = kI x then (kv.1, v) else kv).1 = kv.1
    split <;> rfl
  · rw [decide_eq_false c, if_neg Bool.false_ne_true, if_neg c, List.map_append, List.map_append, h]
    rfl
theorem fold_take {α β : Type} (f : β → α → β) (z : β) {l : List α} {i : Nat} {x : α} (h : l[i]? = some x) : (l.take (i + 1)).foldl f z = f ((l.take i).foldl f z) x := by
  have hi : i < l.length := (List.getElem?_eq_some_iff.mp h).1
  rw [List.take_succ_eq_append_getElem hi, (List.getElem?_eq_some_iff.mp h).2, List.foldl_append]
  rfl
abbrev sVof : Stmt := top 10
def spVof (K : PySem.W.Frag) : Sp := fun vs H Q _ => ∃ (a : Addr) (L : LA) (e d : Nat), vs = [.ref a, .int e] ∧ SqL K H a (refs L) ∧ Tups H L ∧ e ≤ 2 ∧ 1 ≤ d ∧ (∀ p ∈ L, 0 < p.2.length ∧ p.2.length ≤ 100) ∧ (keysOf e (L.map (·.2))).length < 64 ∧ (∀ v ∈ keysOf e (L.map (·.2)), v.length = d ∧ TS.Bd 4 v) ∧
  ∀ (H' : Hp) (q : Addr) (M : LA), Same H H' → H q = none → H' q = some (.lst (refs M)) → Tups H' M → M.map (·.2) = viewsOf e (L.map (·.2)) → Q (.ref q) H'
theorem scVof : FnScope ["names", "eyes", "had", "ring", "view"] ["names", "eyes"] (defScope sVof) := ⟨rfl, rfl, rfl, by decide +kernel, rfl, by decide +kernel, by decide +kernel⟩
theorem put_le (acc : List (List Int)) (v : List Int) : acc.length ≤ (putKey acc v).length := by
  unfold putKey
  split
  · exact Nat.le_refl _
  · rw [List.length_append]; omega
theorem puts_le : ∀ (l : List (List Int)) (acc : List (List Int)), acc.length ≤ (l.foldl putKey acc).length
  | [], _ => Nat.le_refl _
  | v :: l, acc => Nat.le_trans (put_le acc v) (puts_le l _)
theorem keys_le (e : Nat) : ∀ (nss : List (List Int)) (acc : List (List Int)), acc.length ≤ (nss.foldl (fun acc ns => (viewsIn e ns).foldl putKey acc) acc).length
  | [], _ => Nat.le_refl _
  | _ :: r, acc => Nat.le_trans (puts_le _ acc) (keys_le e r _)
theorem keys_up (e : Nat) (nss : List (List Int)) (i : Nat) : (keysOf e (nss.take i)).length ≤ (keysOf e nss).length := by
  have z : keysOf e nss = (nss.drop i).foldl (fun acc ns => (viewsIn e ns).foldl putKey acc) (keysOf e (nss.take i)) := by
    unfold keysOf
    rw [← List.foldl_append, List.take_append_drop]
  rw [z]
  exact keys_le e _ _
section
variable {P : Program} {w : World} {K : PySem.W.Frag} {mg : Str → Option Value} {base : Heap}
theorem tups_updD {H : Hp} {M : LA} {D : Addr} {kvs : List (List Key × V)} {o : HO} (h : Tups H M) (hD : H D = some (.dT kvs)) : Tups (upd H D o) M := fun p m => by
  rw [upd_ne (ne_kinds (h p m) hD (fun z => by cases z))]
  exact h p m
theorem ok_vof {f fV : Addr} {fd fdV : FuncData} (F : Fun K "views_of" "views_of" sVof f fd) (O : Own mg) (V' : Def P w K mg base 3 "views_in" ["ring", "eyes"] (spVin K) fV fdV) : FnOk P w K mg base CX0 4 f fd ["names", "eyes"] (spVof K) := by
  refine F.ok scVof (fun vs H Q E h => ?_) (fun cdv A outer s H vs Q E hr h => ?_)
  · obtain ⟨a, L, e, d, rfl, _⟩ := h
    rfl
  · obtain ⟨a, L, e, d, rfl, ha, tL, he, hd, hL, few, bd, k⟩ := h
    refine ⟨_, pss_cons (ps_set (i := 2) scVof.nd rfl (Or.inl rfl) pe_dnewT)
      (pss_cons (ps_for PassesOwn.never rfl (pi_list (pv 0)) (pg_name (i := 3) scVof.nd rfl (Or.inl rfl))
        (pss_one (ps_for PassesOwn.never rfl (pi_list (pe_call V'.ok hr rfl V'.g V'.kp V'.b .nil pass0 (pa_cons (pv 3) (pa_cons (pv 1) pa_nil)))) (pg_name (i := 4) scVof.nd rfl (Or.inl rfl))
          (pss_one (ps_dput (hu_of hr) (pv 2) (pv 4) pe_bl rfl)))))
      (pss_one (ps_ret (pe_callB (cr_sortD (d := d) (B := 4) hd rfl) (by rfl) O.sorted (by decide +kernel) (pa_cons (pv 2) pa_nil))))), ?_⟩
    intro D hD
    have two : (64 : Nat) < sizeLine := by decide
    refine ⟨_, rfl, a, rfl, ⟨_, (same_new hD).seq ha⟩, for_list (K := K) (a := a) (xs := refs L) (fun i σ H' => ∃ (u v : Option V) (kvs : List (List Key × V)), σ = [some (.ref a), some (.int e), some (.ref D), u, v] ∧ Same H H' ∧ H' D = some (.dT kvs) ∧ kvs.map (·.1) = (keysOf e ((L.map (·.2)).take i)).map kI)
      ⟨none, none, [], rfl, same_new hD, upd_same, rfl⟩ (fun i σ H' _ ⟨_, _, _, _, s1, _⟩ => s1.seq ha) ?_ ?_⟩
    · rintro i x σ H1 hi ⟨u, v, kvs, rfl, s1, hK, eK⟩
      obtain ⟨p, pi, rfl⟩ := refs_get hi
      have pm : p ∈ L := List.mem_of_getElem? pi
      have pi2 : (L.map (·.2))[i]? = some p.2 := by rw [List.getElem?_map, pi]; rfl
      obtain ⟨p1, p2⟩ := hL p pm
      have step : keysOf e ((L.map (·.2)).take (i + 1)) = (viewsIn e p.2).foldl putKey (keysOf e ((L.map (·.2)).take i)) := fold_take _ _ pi2
      refine ⟨_, rfl, _, rfl, p.1, p.2, e, rfl, SqT.of (s1 _ _ (tL p pm)), p1, p2, he, fun H2 q M s2 n2 hM tM eM => ?_⟩
      refine ⟨q, rfl, ⟨_, SqL.of hM⟩, for_list (K := K) (a := q) (xs := refs M) (fun j σ H' => ∃ (v : Option V) (kvs : List (List Key × V)), σ = [some (.ref a), some (.int e), some (.ref D), some (.ref p.1), v] ∧ Same H H' ∧ H' D = some (.dT kvs) ∧ H' q = some (.lst (refs M)) ∧ Tups H' M ∧ kvs.map (·.1) = (((viewsIn e p.2).take j).foldl putKey (keysOf e ((L.map (·.2)).take i))).map kI)
        ⟨v, kvs, rfl, s1.trans s2, s2 _ _ hK, hM, tM, by rw [eK]; rfl⟩ (fun j σ H' _ ⟨_, _, _, _, _, h4, _⟩ => SqL.of h4) ?_ ?_⟩
      · rintro j x σ H3 hj ⟨v, kv2, rfl, s3, h3, hq, tM3, e3⟩
        obtain ⟨r, ri, rfl⟩ := refs_get hj
        have rm : r ∈ M := List.mem_of_getElem? ri
        have ri2 : (viewsIn e p.2)[j]? = some r.2 := by rw [← eM, List.getElem?_map, ri]; rfl
        have l3 : kv2.length < sizeLine := by
          have z1 := congrArg List.length e3
          rw [List.length_map, List.length_map] at z1
          have z2 : (((viewsIn e p.2).take j).foldl putKey (keysOf e ((L.map (·.2)).take i))).length ≤ (keysOf e ((L.map (·.2)).take (i + 1))).length := by
            rw [step]
            have : (viewsIn e p.2).foldl putKey (keysOf e ((L.map (·.2)).take i)) = ((viewsIn e p.2).drop j).foldl putKey (((viewsIn e p.2).take j).foldl putKey (keysOf e ((L.map (·.2)).take i))) := by
              rw [← List.foldl_append, List.take_append_drop]
            rw [this]
            exact puts_le _ _
          have z3 := keys_up e (L.map (·.2)) (i + 1)
          omega
        refine ⟨_, rfl, _, rfl, D, _, rfl, DPut.t (k := kI r.2) h3 (by rw [kI_kV]; exact tM3 r rm) l3, ?_⟩
        refine ⟨_, _, rfl, same_upd s3 hD, upd_same, ?_, tups_updD tM3 h3, ?_⟩
        · rw [upd_ne (ne_kinds hq h3 (fun z => by cases z))]
          exact hq
        · rw [fold_take putKey _ ri2]
          exact putK_keys _ _ _ _ e3
      · rintro σ H3 ⟨v, kv2, rfl, s3, h3, hq, tM3, e3⟩
        rw [refs_len, List.take_of_length_le (l := viewsIn e p.2) (by rw [snd_len eM]; exact Nat.le_refl _), ← step] at e3
        exact ⟨_, v, kv2, rfl, s3, h3, e3⟩
    · rintro σ H1 ⟨u, v, kvs, rfl, s1, hK, eK⟩
      rw [refs_len, List.take_of_length_le (by rw [List.length_map]; exact Nat.le_refl _)] at eK
      refine ⟨_, rfl, D, kvs, _, rfl, .inl hK, eK, few, bd, fun M q tM eM hq => ?_⟩
      exact k _ q M (s1.trans (same_new hq)) (s1.free hq) upd_same (tM.same (same_new hq)) eM
end
end RF

/-! ## RFCalls -/
/-! A written dict whose keys are whole numbers: in, not in, and a call of what it holds. -/
namespace RF
open PySem PySem.Spec PyProof.Rows L2
structure KInts (K : PySem.W.Frag) (P : Program) (w : World) (d : Addr) (vs : List (Key × Value)) : Prop where
  at_ : ∀ h : Heap, K.In h → h.DictOf (mixKind P w) d vs
  low : (d == sysModules) = false
/-- the entries, read: every key a whole number with its own hash -/
def readInts : List DictEntry → Option (List (Key × Value))
  | [] => some []
  | ⟨hv, .int i _, v⟩ :: r => if hv = hashInt i then (readInts r).map fun l => (Sum.inl i, v) :: l else none
  | _ :: _ => none
theorem read_ok {P : Program} {w : World} : ∀ {es : List DictEntry} {vs : List (Key × Value)}, readInts es = some vs → (∀ e ∈ es, ∃ k, (mixKind P w).is k e.key = true ∧ e.hash = (mixKind P w).hash k) ∧ Pairs (mixKind P w) es vs
  | [], vs, h => by
    cases h
    exact ⟨fun e m => absurd m (by simp), .nil⟩
  | ⟨hv, .int i t, v⟩ :: r, vs, h => by
    unfold readInts at h
    split at h
    · next c =>
      obtain ⟨l, e, rfl⟩ := Option.map_eq_some_iff.mp h
      obtain ⟨h1, h2⟩ := read_ok (P := P) (w := w) e
      refine ⟨fun en m => ?_, .cons (mixKind_int P w i t) rfl h2⟩
      rcases List.mem_cons.mp m with rfl | m
      · exact ⟨Sum.inl i, mixKind_int P w i t, c⟩
      · exact h1 en m
    · cases h
theorem kints_of {K : PySem.W.Frag} {P : Program} {w : World} {d : Addr} {es : Array DictEntry} {n : Nat} {vs : List (Key × Value)} (lk : K.lookup d = some ⟨.type "dict", none, .dict es n, #[]⟩) (lo : (d == sysModules) = false)
    (rd : readInts es.toList = some vs) (nd : (vs.map (·.1)).Nodup) : KInts K P w d vs := by
  refine ⟨fun h hi => ?_, lo⟩
  obtain ⟨h1, h2⟩ := read_ok (P := P) (w := w) rd
  exact ⟨_, es, n, hi d _ lk, ⟨rfl, rfl, rfl⟩, rfl, fun e m => h1 e (by simpa using m), h2, nd⟩
section
variable {X : Cx} {d : Addr} {vs : List (Key × Value)}
def rInK (d : Addr) (vs : List (Key × Value)) (neg : Bool) : R2 := fun x y H Q => ∃ i : Int, x = .int i ∧ y = .ref d ∧ Q (.bl (if neg then !(valueAt vs (Sum.inl i)).isSome else (valueAt vs (Sum.inl i)).isSome)) H
theorem op_inK (D : KInts X.K X.prog X.w d vs) : OpR X (compareOp .In) (rInK d vs false) := by
  intro pins s σ H x y v u Q I rx ry h
  obtain ⟨i, rfl, rfl, q⟩ := h
  obtain ⟨t, rfl⟩ := rx
  cases ry
  exact wpAny_in_of (mixKind_int X.prog X.w i t) D.low (D.at_ _ I.kIn).mapOf ⟨.bl _, H, I.tok _, rfl, q⟩
theorem op_notInK (D : KInts X.K X.prog X.w d vs) : OpR X (compareOp .NotIn) (rInK d vs true) := by
  intro pins s σ H x y v u Q I rx ry h
  obtain ⟨i, rfl, rfl, q⟩ := h
  obtain ⟨t, rfl⟩ := rx
  cases ry
  exact wpAny_notIn_of (mixKind_int X.prog X.w i t) D.low (D.at_ _ I.kIn).mapOf ⟨.bl _, H, I.tok _, rfl, q⟩
/-- d[k] -/
def tItemK (d : Addr) (vs : List (Key × Value)) (td ty : TE) : TE := fun σ H Q => td σ H fun x H1 => ty σ H1 fun y H2 => ∃ (i : Int) (u : Value) (v : V), x = .ref d ∧ y = .int i ∧ valueAt vs (Sum.inl i) = some u ∧ RelV v u ∧ Q v H2
theorem pe_itemK {o i : Expr} {pos : Pos} {td ty : TE} (D : KInts X.K X.prog X.w d vs) (ho : PE X o td) (hi : PE X i ty) (hs : NoSl i) : PE X (.Subscript o i pos) (tItemK d vs td ty) := by
  refine ⟨fun pins s σ H Q I h => ?_⟩
  refine subD_of PySem.F.slot_dict_getitem.lookup hs (thn (ho.run pins s σ H _ I h) fun u s1 ⟨x, H1, I1, rx, q1⟩ => thn (hi.run pins s1 σ H1 _ I1 q1) fun iv s2 ⟨y, H2, I2, ry, z, u0, v0, ex, ey, hv, rv, q2⟩ => ?_)
  subst ex ey
  obtain rfl : u = Value.ref d := rx
  obtain ⟨t, rfl⟩ := ry
  exact ⟨(D.at_ _ I2.kIn).typeIs, wpAny_getItem_of (mixKind_int X.prog X.w z t) (D.at_ _ I2.kIn).mapOf hv ⟨v0, H2, I2.tok _, rv, q2⟩⟩
/-- o[k](e, ..): what the subscript gives is called; the promise goes with the address -/
def tCallBy (tf : TE) (S : Addr → Option Sp) (t : TA) : TE := fun σ H Q => tf σ H fun v H1 => ∃ f sp, v = .ref f ∧ S f = some sp ∧ t σ H1 fun us H2 => sp us H2 Q E0
theorem eval_call_sub (o i : Expr) (p : Pos) (args : List Expr) (ks : List Keyword) (pos : Pos) (env : Env) : eval (.Call (.Subscript o i p) args ks pos) env = (do
    callWith pos (← eval (.Subscript o i p) env) [] (backTo pos (starEach args env)) (backToKw pos (keywordEach ks env))) := rfl
theorem pe_callBy {o i e : Expr} {es : List Expr} {p pos : Pos} {tf : TE} {t : TA} {k : Nat} {S : Addr → Option Sp} (hf : PE X (.Subscript o i p) tf) (A : ∀ f sp, S f = some sp → Held X.prog X.w X.K X.mg X.base k f sp) (hr : Room k X.A) (ha : PA X (e :: es) t)
    (he : starEach (e :: es) X.env = (false, eval e X.env) :: starEach es X.env := by rfl) (hpl : (backTo pos (starEach es X.env)).any (·.1) = false := by rfl) : PE X (.Call (.Subscript o i p) (e :: es) [] pos) (tCallBy tf S t) := by
  refine ⟨fun pins s σ H Q I h => ?_⟩
  rw [eval_call_sub]
  refine wpAny_bind (thn (hf.run pins s σ H _ I h) fun u s1 ⟨x, H1, I1, r1, f, sp, ex, hS, q1⟩ => ?_)
  subst ex
  cases r1
  obtain ⟨fd, ps, F, hk, hb⟩ := (A f sp hS).ex
  refine PySem.W.callWith_K (h₀ := X.base) I1.ok.mod.kin hk (thn (ha.run pos pins s1 σ _ _ I1 q1) fun us s2 ⟨ws, H2, I2, r, q⟩ => ⟨I2.kIn, ?_⟩) he hpl
  refine run_fn (dvs := []) (ds := []) F hr hb .nil pass0 I2 r ?_
  rw [List.append_nil]
  exact q
end
end RF

/-! ## RFNest -/
/-! A dict whose keys are (number, tuple of numbers, number) and whose values are numbers: {}, not in, d[k], d[k] = v. -/
namespace RF
open PySem PySem.Spec PyProof.Rows L2
abbrev K3 := Int × List Int × Int
abbrev N3 := List (K3 × Addr × Int)
def nkey (k : K3) : NestedKey := .tup [.num k.1, .tup (k.2.1.map NestedKey.num), .num k.2.2]
theorem nums_inj : ∀ {a b : List Int}, a.map NestedKey.num = b.map NestedKey.num → a = b
  | [], [], _ => rfl
  | [], _ :: _, h => by cases h
  | _ :: _, [], h => by cases h
  | x :: a, y :: b, h => by
    rw [List.map_cons, List.map_cons] at h
    injection h with h1 h2
    injection h1 with h1
    rw [h1, nums_inj h2]
theorem nkey_inj {a b : K3} (h : nkey a = nkey b) : a = b := by
  obtain ⟨i, d, m⟩ := a
  obtain ⟨i2, d2, m2⟩ := b
  unfold nkey at h
  injection h with h
  injection h with h1 h
  injection h with h2 h
  injection h with h3 _
  injection h1 with h1
  injection h2 with h2
  injection h3 with h3
  have h2 := nums_inj h2
  simp only at h1 h2 h3
  rw [h1, h2, h3]
theorem depth_nums : ∀ l : List Int, NestedKey.depthAll (l.map NestedKey.num) = 0
  | [] => by simp [NestedKey.depthAll]
  | x :: r => by
    rw [List.map_cons, NestedKey.depthAll, depth_nums r]
    simp [NestedKey.depth]
theorem nkey_depth (k : K3) : (nkey k).depth ≤ 8 := by
  unfold nkey
  simp [NestedKey.depth, NestedKey.depthAll, depth_nums]
/-- the entries, with the values as they are -/
abbrev NP : N3 → List (NestedKey × Addr × Value) → Prop := Paired fun p q => nkey p.1 = q.1 ∧ p.2.1 = q.2.1 ∧ RelV (.int p.2.2) q.2.2
def NestAt (P : Program) (w : World) (a : Addr) (kvs : N3) (h : Heap) : Prop := (a == sysModules) = false ∧ kvs.length ≤ sizeLine ∧ ∃ xs, NP kvs xs ∧
  ∃ o es ep, h.get? a = some o ∧ o.ExactDict ∧ o.data = .dict es ep ∧ es.toList = xs.map (entryOfKey (nestedKind P w)) ∧ (xs.map (·.1)).Nodup
abbrev NestO (P : Program) (w : World) (a : Addr) (kvs : N3) : HO := .ext (NestAt P w a kvs)
theorem nest_stay {P : Program} {w : World} {a : Addr} {kvs : N3} (h1 h2 : Heap) (x : NestAt P w a kvs h1) (k : ∀ o, h1.get? a = some o → h2.get? a = some o) : NestAt P w a kvs h2 := by
  obtain ⟨y, z, xs, r, o, es, ep, e, c⟩ := x
  exact ⟨y, z, xs, r, o, es, ep, k _ e, c⟩
theorem nest_ok {P : Program} {w : World} {H : Hp} {h : Heap} {a : Addr} {kvs : N3} (x : NestAt P w a kvs h) : ObjOk P w H h a (NestO P w a kvs) := by
  obtain ⟨y, z, xs, r, o, es, ep, e, c⟩ := id x
  exact ⟨x, ⟨o, e⟩, fun h1 h2 => nest_stay h1 h2⟩
theorem nest_of {P : Program} {w : World} {H : Hp} {h : Heap} {a : Addr} {kvs : N3} (ok : HOk P w H h) (e : H a = some (NestO P w a kvs)) : NestAt P w a kvs h := (show ObjOk P w H h a (NestO P w a kvs) from ok a _ e).1
/-- the tuple at b is the key k -/
def KeyAt (H : Hp) (b : Addr) (k : K3) : Prop := ∃ c, H b = some (.tup [.int k.1, .ref c, .int k.2.2]) ∧ H c = some (.tup (k.2.1.map V.int))
def KeysAt (H : Hp) (kvs : N3) : Prop := ∀ p ∈ kvs, KeyAt H p.2.1 p.1
theorem KeyAt.mono {H H' : Hp} {b : Addr} {k : K3} (h : KeyAt H b k) (t : ∀ x vs, H x = some (.tup vs) → H' x = some (.tup vs)) : KeyAt H' b k := by
  obtain ⟨c, h1, h2⟩ := h
  exact ⟨c, t _ _ h1, t _ _ h2⟩
theorem KeysAt.mono {H H' : Hp} {kvs : N3} (h : KeysAt H kvs) (t : ∀ x vs, H x = some (.tup vs) → H' x = some (.tup vs)) : KeysAt H' kvs := fun p m => (h p m).mono t
theorem nums_all {h : Heap} : ∀ {ns : List Int} {us : List Value}, Vals (ns.map V.int) us → NestedAll h (ns.map NestedKey.num) us
  | [], _, .nil => .nil
  | n :: ns, _ :: us, .cons r t => by
    obtain ⟨tk, rfl⟩ := r
    exact .cons (.int n tk) (nums_all t)
theorem key_is {P : Program} {w : World} {H : Hp} {h : Heap} {b : Addr} {k : K3} (ok : HOk P w H h) (e : KeyAt H b k) : (nestedKind P w).is h (nkey k) b := by
  obtain ⟨c, h1, h2⟩ := e
  obtain ⟨_, its, r, o, g1, g2, n, g3⟩ := (show ObjOk P w H h b (.tup [.int k.1, .ref c, .int k.2.2]) from ok b _ h1)
  obtain ⟨_, jts, r2, o2, f1, f2, n2, f3⟩ := (show ObjOk P w H h c (.tup (k.2.1.map V.int)) from ok c _ h2)
  refine ⟨.tup g1 g2 g3 ?_, nkey_depth k⟩
  cases r with
  | cons r1 r =>
    cases r with
    | cons r2' r =>
      cases r with
      | cons r3 r =>
        cases r
        obtain ⟨t1, rfl⟩ := r1
        cases (show _ = Value.ref c from r2')
        obtain ⟨t3, rfl⟩ := r3
        refine .cons (.int _ t1) (.cons (.tup f1 f2 f3 ?_) (.cons (.int _ t3) .nil))
        simpa using nums_all r2
/-- what stands at a key -/
def valN (kvs : N3) (k : K3) : Option Int := (kvs.find? fun p => decide (p.1 = k)).map (·.2.2)
theorem valN_rel : ∀ {kvs : N3} {xs : List (NestedKey × Addr × Value)} (k : K3), NP kvs xs → RelO ((valN kvs k).map V.int) ((atKey xs (nkey k)).map (·.2))
  | [], _, k, .nil => True.intro
  | p :: kvs, q :: xs, k, .cons h t => by
    obtain ⟨h1, _, h3⟩ := h
    by_cases e : p.1 = k
    · have e' : q.1 = nkey k := by rw [← h1, e]
      have b : atKey (q :: xs) (nkey k) = some q.2 := by simp [atKey, List.find?_cons, e']
      have c : valN (p :: kvs) k = some p.2.2 := by simp [valN, List.find?_cons, e]
      rw [b, c]; exact h3
    · have e' : ¬ q.1 = nkey k := fun z => e (nkey_inj (h1.trans z))
      have b : atKey (q :: xs) (nkey k) = atKey xs (nkey k) := by simp [atKey, List.find?_cons, e']
      have c : valN (p :: kvs) k = valN kvs k := by simp [valN, List.find?_cons, e]
      rw [b, c]; exact valN_rel k t
theorem NP.keys : ∀ {kvs : N3} {xs : List (NestedKey × Addr × Value)}, NP kvs xs → ∀ x ∈ xs, ∃ p ∈ kvs, nkey p.1 = x.1 ∧ p.2.1 = x.2.1
  | [], _, .nil, x, m => by cases m
  | p :: kvs, q :: xs, .cons h t, x, m => by
    rcases List.mem_cons.mp m with rfl | m
    · exact ⟨p, List.mem_cons_self, h.1, h.2.1⟩
    · obtain ⟨r, mr, e⟩ := NP.keys t x m
      exact ⟨r, List.mem_cons_of_mem _ mr, e⟩
theorem nest_dict {P : Program} {w : World} {H : Hp} {h : Heap} {a : Addr} {kvs : N3} (ok : HOk P w H h) (e : H a = some (NestO P w a kvs)) (ks : KeysAt H kvs) : (a == sysModules) = false ∧ kvs.length ≤ sizeLine ∧ ∃ xs, NP kvs xs ∧ h.DictOfH (nestedKind P w) a xs := by
  obtain ⟨y, z, xs, r, o, es, ep, h1, h2, h3, h4, h5⟩ := nest_of ok e
  refine ⟨y, z, xs, r, o, es, ep, h1, h2, h3, h4, fun x m => ?_, h5⟩
  obtain ⟨p, mp, e1, e2⟩ := r.keys x m
  rw [← e1, ← e2]
  exact key_is ok (ks p mp)
section
variable {X : Cx} {pos pos' : Pos} {o i value : Expr} {td ty tv : TE}
def tDNewN (P : Program) (w : World) : TE := fun _ H Q => ∀ p, H p = none → Q (.ref p) (upd H p (NestO P w p []))
theorem pe_dnewN {P : Program} {w : World} (hP : X.prog = P := by rfl) (hW : X.w = w := by rfl) : PE X (.Dict [] [] pos) (tDNewN P w) := by subst hP hW; exact ⟨fun pins s σ H Q I h =>
  wpAny_Dict_empty ⟨.ref s.heap.objs.size, _, I.laid (a := s.heap.objs.size) (o := NestO X.prog X.w s.heap.objs.size []) (t' := s.toks) (fun _ _ q => Heap.get?_push_of_some _ q) (Nat.le_refl _)
    (nest_ok ⟨beq_eq_false_iff_ne.mpr (Ne.symm (Nat.ne_of_lt I.big)), Nat.zero_le _, [], .nil, _, #[], 0, Heap.get?_push_size _ rfl, ⟨rfl, rfl, rfl⟩, rfl, rfl, List.nodup_nil⟩), rfl, h _ (I.hok.fresh (Nat.le_refl _))⟩⟩
def tNNotIn (P : Program) (w : World) (ty td : TE) : TE := fun σ H Q => ty σ H fun y H1 => td σ H1 fun x H2 => ∃ a b kvs k, x = .ref a ∧ y = .ref b ∧ H2 a = some (NestO P w a kvs) ∧ KeysAt H2 kvs ∧ KeyAt H2 b k ∧ Q (.bl (!(valN kvs k).isSome)) H2
theorem pc_nnotin {P : Program} {w : World} (hu : X.A.units + 64 < cLine) (hi : PE X i ty) (ho : PE X o td) (hP : X.prog = P := by rfl) (hW : X.w = w := by rfl) : PC X .NotIn i o (tNNotIn P w ty td) := by
  subst hP hW
  refine ⟨fun pins s σ H Q I h => ?_⟩
  refine thn (hi.run pins s σ H _ I h) fun iv s1 ⟨y, H1, I1, ry, q1⟩ => thn (ho.run pins s1 σ H1 _ I1 q1) fun u s2 ⟨x, H2, I2, rx, a, b, kvs, k, ex, ey, ha, hks, hk, q2⟩ => ?_
  subst ex ey
  obtain rfl : u = Value.ref a := rx
  obtain rfl : iv = Value.ref b := ry
  obtain ⟨y, z, xs, r, dd⟩ := nest_dict I2.hok ha hks
  refine notIn_keyed (knd := nestedKind X.prog X.w) (by show X.A.in1.units + 8 < cLine; rw [Around.in1_units]; omega) (key_is I2.hok hk) y ⟨xs, dd, rfl⟩ ?_
  have e := (valN_rel k r).isSome_eq
  rw [Option.isSome_map] at e
  rw [valueAt_pairsH, ← e]
  exact ⟨.bl _, H2, I2.tok _, rfl, q2⟩
def tNGet (P : Program) (w : World) (td ty : TE) : TE := fun σ H Q => td σ H fun x H1 => ty σ H1 fun y H2 => ∃ a b kvs k v, x = .ref a ∧ y = .ref b ∧ H2 a = some (NestO P w a kvs) ∧ KeysAt H2 kvs ∧ KeyAt H2 b k ∧ valN kvs k = some v ∧ Q (.int v) H2
theorem pe_nget {P : Program} {w : World} (hu : X.A.units + 64 < cLine) (ho : PE X o td) (hi : PE X i ty) (hs : NoSl i) (hP : X.prog = P := by rfl) (hW : X.w = w := by rfl) : PE X (.Subscript o i pos) (tNGet P w td ty) := by
  subst hP hW
  refine ⟨fun pins s σ H Q I h => ?_⟩
  refine subD_of PySem.F.slot_dict_getitem.lookup hs (thn (ho.run pins s σ H _ I h) fun u s1 ⟨x, H1, I1, rx, q1⟩ => thn (hi.run pins s1 σ H1 _ I1 q1) fun iv s2 ⟨y, H2, I2, ry, a, b, kvs, k, v, ex, ey, ha, hks, hk, hv, q2⟩ => ?_)
  subst ex ey
  obtain rfl : u = Value.ref a := rx
  obtain rfl : iv = Value.ref b := ry
  obtain ⟨y, z, xs, r, dd⟩ := nest_dict I2.hok ha hks
  have e := valN_rel k r
  rw [hv] at e
  obtain ⟨w', hw, rw'⟩ := RelO.some_of (v := V.int v) e
  refine ⟨dd.typeIs, ?_⟩
  refine getItem_keyed (knd := nestedKind X.prog X.w) (by show X.A.in1.units + 8 < cLine; rw [Around.in1_units]; omega) (key_is I2.hok hk) ⟨xs, dd, rfl⟩ (by rw [valueAt_pairsH]; exact hw) ?_
  exact ⟨.int v, H2, I2.tok _, rw', q2⟩
theorem np_snoc {kvs : N3} {xs : List (NestedKey × Addr × Value)} (r : NP kvs xs) {k : K3} {b : Addr} {v : Int} {u : Value} (h : RelV (.int v) u) : NP (kvs ++ [(k, b, v)]) (xs ++ [(nkey k, b, u)]) := Paired.snoc r ⟨rfl, rfl, h⟩
def sNPut (P : Program) (w : World) (td ty tv : TE) : TS := fun D σ H => tv σ H fun v H1 => td σ H1 fun x H2 => ty σ H2 fun y H3 => ∃ a b kvs k z, v = .int z ∧ x = .ref a ∧ y = .ref b ∧ H3 a = some (NestO P w a kvs) ∧ KeysAt H3 kvs ∧ KeyAt H3 b k ∧ valN kvs k = none ∧ kvs.length < sizeLine ∧ D.nx σ (upd H3 a (NestO P w a (kvs ++ [(k, b, z)])))
theorem ps_nput {P : Program} {w : World} (hu : X.A.units + 64 < cLine) (ho : PE X o td) (hi : PE X i ty) (hv : PE X value tv) (hs : swapsWith value (some (.Subscript o i pos')) pos.line X.env = pure false) (hP : X.prog = P := by rfl) (hW : X.w = w := by rfl) :
    PS X (.Assign [.Subscript o i pos'] value pos) (sNPut P w td ty tv) := by
  subst hP hW
  refine ⟨fun pins s σ H D I h => ?_⟩
  refine wpAny_Assign_Subscript (thn (hv.run pins s σ H _ I h) fun r s1 ⟨v, H1, I1, rv, q1⟩ => thn (ho.run pins s1 σ H1 _ I1 q1) fun u s2 ⟨x, H2, I2, rx, q2⟩ => thn (hi.run pins s2 σ H2 _ I2 q2) fun iv s3 ⟨y, H3, I3, ry, a, b, kvs, k, z, ev, ex, ey, ha, hks, hk, hn, hl, q3⟩ => ?_) hs
  subst ev ex ey
  obtain rfl : u = Value.ref a := rx
  obtain rfl : iv = Value.ref b := ry
  obtain ⟨y, _, xs, rel, dd⟩ := nest_dict I3.hok ha hks
  have e := valN_rel k rel
  rw [hn] at e
  have no : atKey xs (nkey k) = none := by
    have := RelO.none_of e
    exact Option.map_eq_none_iff.mp this
  have len : kvs.length = xs.length := Paired.length rel
  refine wpAny_setItem_heap (hsz := by omega) (knd := nestedKind X.prog X.w) (by show X.A.in1.units + 8 < cLine; rw [Around.in1_units]; omega) (key_is I3.hok hk) dd fun h' dd' hs' => ?_
  rw [storedH_new no] at dd'
  obtain ⟨q, es, ep, hq, h2, h3, h4, _, h5⟩ := dd'
  refine ⟨σ, _, d_write (ob := NestO X.prog X.w a (kvs ++ [(k, b, z)])) I3 (by rw [ha]; exact True.intro) hs' ⟨q, hq⟩ (nest_ok ⟨y, ?_, _, np_snoc rel rv, q, es, ep, hq, h2, h3, h4, h5⟩), q3⟩
  rw [List.length_append]
  show kvs.length + 1 ≤ sizeLine
  omega
end
end RF

/-! ## RFEnum -/
/-! enumerate(t) of a tuple; zip(l, t) of a list and a tuple. -/
namespace RF
open PySem PySem.Spec PyProof.Rows L2
abbrev enumO (n : Nat) : Obj := { cls := .type "enumerate", data := .fields #[.none, .bool false, .ref n, rawInt 0, .none, .none] }
theorem enum_new1 {v : Value} {ob : Obj} {Hs : Heap → Prop} (B : Begins v ob Hs) : Meets (Builtin.«enumerate.__new__» ⟨[.type "enumerate", v], []⟩) (fun _ R s => Hs s.heap ∧ R (.ok (.ret (.ref (s.heap.push ob).objs.size))) { s with heap := (s.heap.push ob).push (enumO s.heap.objs.size) }) :=
  .of_wp fun prog w A R s hh => by
    obtain ⟨hp, gl, dp, tk, out⟩ := s
    obtain ⟨st, hh⟩ := hh
    have sb := sub_enumerate
    have go : ∀ {A1 : Around} {E1 : Value → Shared → Prop} {Q1 : Value → Shared → Prop}, Q1 (.ref hp.objs.size) ⟨hp.push ob, gl, dp, tk, out⟩ → wpAny (model prog w) A1 (pyIter v) Q1 E1 ⟨hp, gl, dp, tk, out⟩ := fun q => B.iter prog w _ _ ⟨hp, gl, dp, tk, out⟩ _ st q
    wp_walk using go
    refine wpAny_stack_any fun stk => wpAny_pure ?_
    split
    · rename_i c _ _ _ _ _
      cases (c == Value.type "enumerate") <;> (wp_walk using go; exact ⟨_, rfl, hh⟩)
    · (wp_walk using go; exact ⟨_, rfl, hh⟩)
theorem enum_made {prog : Program} {w : World} {A : Around} {E : Value → Shared → Prop} {s : Shared} {v : Value} {ob : Obj} {Hs : Heap → Prop} {Q : Value → Shared → Prop} (B : Begins v ob Hs) (st : Hs s.heap)
    (k : ∀ g : Heap, IsEnum g (s.heap.objs.size + 1) s.heap.objs.size 0 .none → g.get? s.heap.objs.size = some ob → (∀ b u, s.heap.get? b = some u → g.get? b = some u) → Q (.ref (s.heap.objs.size + 1)) { s with heap := g }) :
    wpAny (model prog w) A (call (.type "enumerate") [v]) Q E s := by
  refine callType_new F.called_enumerate (by decide) (F.typeCall_enumerate_1 _) (F.newCall_enumerate_1 _) (fun x => F.args_object_init_2 x _) F.entry_enumerate_new (enum_new1 B) ⟨st, ?_⟩
  have z1 : (s.heap.push ob).objs.size = s.heap.objs.size + 1 := Heap.size_push ..
  have z2 : ((s.heap.push ob).push (enumO s.heap.objs.size)).get? (s.heap.objs.size + 1) = some (enumO s.heap.objs.size) := z1 ▸ Heap.get?_push_size (s.heap.push ob) (o := enumO s.heap.objs.size) rfl
  show _ ∧ _
  rw [z1]
  exact ⟨⟨_, z2, rfl⟩, k _ z2 (Heap.get?_push_of_some _ (Heap.get?_push_size _ B.free)) fun b u e => Heap.get?_push_of_some _ (Heap.get?_push_of_some _ e)⟩
/-- the items of the tuple at a, numbered, each in a new pair -/
def IteT (K : PySem.W.Frag) (a : Addr) (ys : List V) : It where
  go i H := SqT K H a ys ∧ i < ys.length
  yld i H v H' := ∃ (T : Addr) (x : V), v = .ref T ∧ H T = none ∧ H' = upd H T (.tup [.int (i : Nat), x]) ∧ ys[i]? = some x
  stop i H := SqT K H a ys ∧ i = ys.length
theorem tup_at {X : Cx} {pins : List (Addr × Obj)} {σ : L2.St} {H : Hp} {s : Shared} (I : Inv X pins σ H s) {a : Addr} {ys : List V} (h : SqT X.K H a ys) {items : Array Value} (hi : s.heap.IsTuple a items) : Vals ys items.toList := by
  obtain ⟨its, r, p, _⟩ := I.tuple h
  obtain ⟨o1, e1, _, n1, d1⟩ := p
  obtain ⟨o2, e2, _, n2, d2⟩ := hi
  cases (e1.symm.trans e2)
  rw [d1] at d2
  cases d2
  simpa using r
theorem turn_enumT {P : Program} {w : World} {K : PySem.W.Frag} {elts : List Expr} {kk : Nat} {tpos : Pos} {ys : List V} (a e it : Addr) (hne : a ≠ it) (hae : a ≠ e) :
    Turn P w K (.Tuple elts kk tpos) (IteT K a ys) [e, it] e (fun i h => (∃ old, IsEnum h e it ((i : Nat) : Int) old) ∧ h.IsTupleIter it a i ∧ e ≠ it) where
  mem := by simp
  obj := fun i h st b hb => by
    obtain ⟨⟨old, he⟩, ⟨o, ho, hc, hd⟩, _⟩ := st
    have cs : b = e ∨ b = it := by simpa using hb
    rcases cs with rfl | rfl
    · exact ⟨_, he, fun v q => nomatch q⟩
    · exact ⟨o, ho, fun v q => by rw [hd] at q; cases q⟩
  keep := fun i h h' st k => ⟨let ⟨old, he⟩ := st.1; ⟨old, k e (by simp) _ he⟩, st.2.1.at fun o q => k it (by simp) o q, st.2.2⟩
  item := by
    intro X hP hw hK hc i pins s σ H E I hf st hg
    subst hP hw hK
    obtain ⟨⟨old, he⟩, hit, hei⟩ := st
    obtain ⟨hq, hlt⟩ := hg
    obtain ⟨its, rv, p, hz⟩ := I.tuple hq
    have pT : s.heap.IsTuple a its.toArray := p
    have len : its.length = ys.length := rv.length.symm
    have e1 : e < s.heap.objs.size := Heap.lt_size he
    have i1 : it < s.heap.objs.size := by obtain ⟨_, q, _⟩ := hit; exact Heap.lt_size q
    have nef : e ∉ [it, a] := fun m => by
      have cs : e = it ∨ e = a := by simpa using m
      rcases cs with z | z
      · exact hei z
      · exact hae z.symm
    refine wpAny_pyNext_enum_itemD (Draws.tuple (A := X.A.in1) (I.ok.hd hc) it a hne its.toArray) he ⟨hit, pT⟩ (by rw [List.size_toArray, len]; exact hlt) hei nef fun u h' tk hu ho hit' hT hs' hk => ?_
    obtain ⟨x, hx, ru⟩ : ∃ x, ys[i]? = some x ∧ RelV x u := by
      have hx : ys[i]? = some ys[i] := List.getElem?_eq_getElem hlt
      obtain ⟨u', hu', ru'⟩ := rv.get hx
      have : its[i]? = some u := by simpa using hu
      rw [this] at hu'
      cases hu'
      exact ⟨_, hx, ru'⟩
    refine ⟨_, rfl, wpAny_letOwnedTupleGo_enum (s := { s with heap := h', toks := tk + 1 }) ho fun h2 he2 sb => ?_⟩
    have hT2 : h2.get? s.heap.objs.size = some { cls := .type "tuple", data := .seq #[.int i tk, u] } := (sb.2 _ (Nat.ne_of_gt e1)).trans hT
    have fresh : ObjOk X.prog X.w (upd H s.heap.objs.size (.tup [.int (i : Nat), x])) h2 s.heap.objs.size (.tup [.int (i : Nat), x]) := ⟨by show 2 ≤ sizeLine; decide, [.int i tk, u], .cons ⟨_, rfl⟩ (.cons ru .nil), ⟨_, hT2, rfl, _, rfl⟩⟩
    have I1 : Inv X pins σ (upd H s.heap.objs.size (.tup [.int (i : Nat), x])) { s with heap := h2, toks := tk + 1 } :=
      I.turnedNew (t' := tk + 1) (ch := [e, it]) (fun b ob hb q => (sb.2 b fun z => hb (by simp [z])).trans (hk b ob (fun z => hb (by simp [z])) (fun z => hb (by simp [z])) q)) hf (Nat.le_refl _) fresh
    refine ⟨.ref s.heap.objs.size, _, I1, rfl, ⟨_, x, rfl, I.hok.fresh (Nat.le_refl _), rfl, hx⟩, ⟨⟨u, ?_⟩, hit'.1.at fun o q => (sb.2 it (Ne.symm hei)).trans q, hei⟩, fun b hb => ?_⟩
    · rw [show ((i + 1 : Nat) : Int) = (i : Int) + 1 by omega]
      exact he2
    · have hb' : b < s.heap.objs.size := by
        have cs : b = e ∨ b = it := by simpa using hb
        rcases cs with rfl | rfl
        · exact e1
        · exact i1
      rw [upd_ne (Nat.ne_of_lt hb')]
      exact (hf b hb).1
  done := by
    intro X hP hw hK hc i pins s σ H E I hf st hg
    subst hP hw hK
    obtain ⟨⟨old, he⟩, hit, hei⟩ := st
    obtain ⟨hq, rfl⟩ := hg
    obtain ⟨its, rv, p, hz⟩ := I.tuple hq
    have pT : s.heap.IsTuple a its.toArray := p
    have len : its.toArray.size = ys.length := by simpa using rv.length.symm
    obtain ⟨f0, f1, f2, f3, f4, f5⟩ := hf it (by simp)
    exact wpAny_pyNext_enum_endD (Draws.tuple (A := X.A.in1) (I.ok.hd hc) it a hne its.toArray) he ⟨by rw [len]; exact hit, pT⟩ fun g eb => ⟨rfl, I.turned (t' := s.toks) (fun b o hb q => eb b o hb q) f0 f1 f3 f4 f5⟩
  self := fun A i s Q E st h => let ⟨⟨_, he⟩, _⟩ := st; wpAny_pyIter_enum he h
def iEnumT (K : PySem.W.Frag) (ta : TA) : TI := fun σ H R => ta σ H fun vs H1 => ∃ a ys, vs = [.ref a] ∧ SqT K H1 a ys ∧ R (IteT K a ys) H1
theorem pi_enumT {X : Cx} {e : Expr} {ta : TA} {p pos tpos : Pos} {elts : List Expr} {kk : Nat} (gl : Gl X "enumerate") (mo : X.mg "enumerate" = none) (ha : PA X [e] ta) (hs : starEach [e] X.env = [(false, eval e X.env)] := by rfl) : PI X (.Tuple elts kk tpos) (.Call (.Name "enumerate" p) [e] [] pos) (iEnumT X.K ta) := by
  refine ⟨fun pins s σ H R I h => Call_ (ld_blt I gl mo boot_enumerate (PyProof.Rows.callWith_type1 (thn (ha.run pos pins s σ H _ I h) fun us s1 ⟨vs, H1, I1, r1, a, ys, ex, hq, q⟩ => ?_) hs rfl))⟩
  subst ex
  rw [Vals.ref1 r1]
  obtain ⟨its, rv, p', hz⟩ := I1.tuple hq
  have pT : s1.heap.IsTuple a its.toArray := p'
  have al : a < s1.heap.objs.size := by obtain ⟨o, z, _⟩ := pT; exact Heap.lt_size z
  refine enum_made (begins_tuple a its.toArray) pT fun g he hit hk => wpAny_pyIter_enum he ?_
  have I2 : Inv X pins σ H1 { s1 with heap := g } := I1.kept (t' := s1.toks) hk
  refine ⟨s1.heap.objs.size + 1, [s1.heap.objs.size + 1, s1.heap.objs.size], _, _, H1, rfl, I2, turn_enumT a (s1.heap.objs.size + 1) s1.heap.objs.size (Nat.ne_of_lt al) (Nat.ne_of_lt (Nat.lt_succ_of_lt al)), ⟨⟨.none, he⟩, ⟨_, hit, rfl, rfl⟩, Nat.succ_ne_self _⟩, fun b hb => ?_, q⟩
  have hle : s1.heap.objs.size ≤ b := by
    have cs : b = s1.heap.objs.size + 1 ∨ b = s1.heap.objs.size := by simpa using hb
    rcases cs with z | z
    · rw [z]; exact Nat.le_succ _
    · rw [z]; exact Nat.le_refl _
  exact I1.fpOk hle (I1.hok.fresh hle)
end RF

/-! ## RFZip -/
namespace RF
open PySem PySem.Spec PyProof.Rows L2
/-- the items of the list at a and the tuple at b, of one length, each two in a new pair -/
def ItzM (K : PySem.W.Frag) (a b : Addr) (xs ys : List V) : It where
  go i H := SqL K H a xs ∧ SqT K H b ys ∧ i < xs.length ∧ i < ys.length
  yld i H v H' := ∃ (T : Addr) (x y : V), v = .ref T ∧ H T = none ∧ H' = upd H T (.tup [x, y]) ∧ xs[i]? = some x ∧ ys[i]? = some y
  stop i H := SqL K H a xs ∧ SqT K H b ys ∧ i = xs.length ∧ i = ys.length
theorem get_rel {xs : List V} {us : List Value} (r : Vals xs us) {i : Nat} (h : i < xs.length) {u : Value} (hu : us.toArray[i]? = some u) : ∃ x, xs[i]? = some x ∧ RelV x u := by
  have hx : xs[i]? = some xs[i] := List.getElem?_eq_getElem h
  obtain ⟨u', hu', ru'⟩ := r.get hx
  have z : us[i]? = some u := by simpa using hu
  rw [z] at hu'
  cases hu'
  exact ⟨_, hx, ru'⟩
theorem turn_zipM {P : Program} {w : World} {K : PySem.W.Frag} {elts : List Expr} {kk : Nat} {tpos : Pos} {a b z TI TO i1 i2 : Addr} {xs ys : List V} (D : ZipSep2 z TI TO i1 i2 [i1, a] [i2, b]) (n1 : a ≠ i1) (n2 : b ≠ i2) :
    Turn P w K (.Tuple elts kk tpos) (ItzM K a b xs ys) [z, TI, TO, i1, i2] z (fun i h => IsZip h z TI TO .none ∧ IsTupOf2 h TI (.ref i1) (.ref i2) ∧ (∃ x y, IsTupOf2 h TO x y) ∧ h.IsListIter i1 a i ∧ h.IsTupleIter i2 b i) where
  mem := by simp
  obj := fun i h st c hc => by
    obtain ⟨hz, hI, ⟨x, y, hO⟩, ⟨o1, e1, _, d1⟩, ⟨o2, e2, _, d2⟩⟩ := st
    have cs : c = z ∨ c = TI ∨ c = TO ∨ c = i1 ∨ c = i2 := by simpa using hc
    rcases cs with rfl | rfl | rfl | rfl | rfl
    · exact ⟨_, hz, fun v q => nomatch q⟩
    · exact ⟨_, hI, fun v q => nomatch q⟩
    · exact ⟨_, hO, fun v q => nomatch q⟩
    · exact ⟨o1, e1, fun v q => by rw [d1] at q; cases q⟩
    · exact ⟨o2, e2, fun v q => by rw [d2] at q; cases q⟩
  keep := fun i h h' st k => ⟨k z (by simp) _ st.1, k TI (by simp) _ st.2.1, let ⟨x, y, hO⟩ := st.2.2.1; ⟨x, y, k TO (by simp) _ hO⟩, st.2.2.2.1.at fun o q => k i1 (by simp) o q, st.2.2.2.2.at fun o q => k i2 (by simp) o q⟩
  item := by
    intro X hP hw hK hc i pins s σ H E I hf st hg
    subst hP hw hK
    obtain ⟨hz, hI, ⟨x0, y0, hO⟩, h1, h2⟩ := st
    obtain ⟨hqx, hqy, l1, l2⟩ := hg
    obtain ⟨its, rv, p1, _⟩ := I.list hqx
    obtain ⟨jts, rv2, p2, _⟩ := I.tuple hqy
    have pL : s.heap.IsList a its.toArray := p1.isList
    have pT : s.heap.IsTuple b jts.toArray := p2
    have zl : z < s.heap.objs.size := Heap.lt_size hz
    refine wpAny_pyNext_zipD2_item D (Draws.list (A := X.A.in1) (I.ok.hd hc) i1 a n1 its.toArray) (Draws.tuple (A := X.A.in1) (I.ok.hd hc) i2 b n2 jts.toArray) hz hI hO ⟨h1, pL⟩ ⟨h2, pT⟩ (by rw [List.size_toArray, ← rv.length]; exact l1) (by rw [List.size_toArray, ← rv2.length]; exact l2)
      fun u u2 h' tk hu hu2 z' O' s1' s2' hT hs' hk => ?_
    obtain ⟨x, hx, ru⟩ := get_rel rv l1 hu
    obtain ⟨y, hy, ru2⟩ := get_rel rv2 l2 hu2
    refine ⟨_, rfl, wpAny_letOwnedTupleGo_zip (s := { s with heap := h', toks := tk }) z' fun g z'' sb => ?_⟩
    have hT2 : g.get? s.heap.objs.size = some { cls := .type "tuple", data := .seq #[u, u2] } := (sb.2 _ (Nat.ne_of_gt zl)).trans hT
    have fresh : ObjOk X.prog X.w (upd H s.heap.objs.size (.tup [x, y])) g s.heap.objs.size (.tup [x, y]) := ⟨by show 2 ≤ sizeLine; decide, [u, u2], .cons ru (.cons ru2 .nil), ⟨_, hT2, rfl, _, rfl⟩⟩
    have I1 : Inv X pins σ (upd H s.heap.objs.size (.tup [x, y])) { s with heap := g, toks := tk } :=
      I.turnedNew (t' := tk) (ch := [z, TI, TO, i1, i2]) (fun c o hb q => (sb.2 c fun e => hb (by simp [e])).trans (hk c o (fun e => hb (by simp [e])) (fun e => hb (by simp [e])) (fun e => hb (by simp [e])) (fun e => hb (by simp [e])) q)) hf (Nat.le_refl _) fresh
    refine ⟨.ref s.heap.objs.size, _, I1, rfl, ⟨_, x, y, rfl, I.hok.fresh (Nat.le_refl _), rfl, hx, hy⟩, ⟨z'', ?_, ⟨u, u2, ?_⟩, ?_, ?_⟩, fun c hcm => ?_⟩
    · exact (sb.2 _ D.TIz).trans (hk _ _ D.TIz D.TITO D.TIi1 D.TIi2 hI)
    · exact (sb.2 _ D.TOz).trans O'
    · exact s1'.1.at fun o q => (sb.2 _ (Ne.symm D.zi1)).trans q
    · exact s2'.1.at fun o q => (sb.2 _ (Ne.symm D.zi2)).trans q
    · have lt : c < s.heap.objs.size := by
        have cs : c = z ∨ c = TI ∨ c = TO ∨ c = i1 ∨ c = i2 := by simpa using hcm
        rcases cs with q | q | q | q | q
        · rw [q]; exact zl
        · rw [q]; exact Heap.lt_size hI
        · rw [q]; exact Heap.lt_size hO
        · rw [q]; obtain ⟨_, e, _⟩ := h1; exact Heap.lt_size e
        · rw [q]; obtain ⟨_, e, _⟩ := h2; exact Heap.lt_size e
      rw [upd_ne (Nat.ne_of_lt lt)]
      exact (hf c hcm).1
  done := by
    intro X hP hw hK hc i pins s σ H E I hf st hg
    subst hP hw hK
    obtain ⟨hz, hI, ⟨x0, y0, hO⟩, h1, h2⟩ := st
    obtain ⟨hqx, hqy, l1, l2⟩ := hg
    obtain ⟨its, rv, p1, _⟩ := I.list hqx
    obtain ⟨jts, rv2, p2, _⟩ := I.tuple hqy
    have pL : s.heap.IsList a its.toArray := p1.isList
    have pT : s.heap.IsTuple b jts.toArray := p2
    have m1 : i = its.toArray.size := by rw [List.size_toArray, ← rv.length]; exact l1
    have m2 : i = jts.toArray.size := by rw [List.size_toArray, ← rv2.length]; exact l2
    exact wpAny_pyNext_zipD2_end D (Draws.list (A := X.A.in1) (I.ok.hd hc) i1 a n1 its.toArray) (Draws.tuple (A := X.A.in1) (I.ok.hd hc) i2 b n2 jts.toArray) hz hI hO ⟨h1, pL⟩ ⟨h2, pT⟩ (Nat.le_of_eq m1) (Nat.le_of_eq m2) (.inl m1) fun g tk hk => ⟨rfl, I.turnedL (t' := tk) (ch := [z, TI, TO, i1, i2]) (fun c o hb q =>
      hk c o (fun e => hb (by simp [e])) (fun e => hb (by simp [e])) (fun e => hb (by simp [e])) (fun e => hb (by simp [e])) q) hf⟩
  self := fun A i s Q E st h => wpAny_pyIter_zip st.1 h
def iZipM (K : PySem.W.Frag) (ta : TA) : TI := fun σ H R => ta σ H fun vs H1 => ∃ a b xs ys, vs = [.ref a, .ref b] ∧ SqL K H1 a xs ∧ SqT K H1 b ys ∧ R (ItzM K a b xs ys) H1
theorem pi_zipM {X : Cx} {e e2 : Expr} {ta : TA} {p pos tpos : Pos} {elts : List Expr} {kk : Nat} (gl : Gl X "zip") (mo : X.mg "zip" = none) (ha : PA X [e, e2] ta)
    (hs : starEach [e, e2] X.env = (false, eval e X.env) :: starEach [e2] X.env := by rfl) (hpl : (backTo pos (starEach [e2] X.env)).any (·.1) = false := by rfl) : PI X (.Tuple elts kk tpos) (.Call (.Name "zip" p) [e, e2] [] pos) (iZipM X.K ta) := by
  refine ⟨fun pins s σ H R I h => Call_ (ld_blt I gl mo PyProof.Rows.boot_zip (PyProof.Rows.callWith_type1 (thn (ha.run pos pins s σ H _ I h) fun us s1 ⟨vs, H1, I1, r1, a, b, xs, ys, ex, hqx, hqy, q⟩ => ?_) hs hpl))⟩
  subst ex
  obtain ⟨u, v, rfl, r2, r3⟩ := vals2 r1
  cases r2
  cases r3
  obtain ⟨its, rv, p1, _⟩ := I1.list hqx
  obtain ⟨jts, rv2, p2, _⟩ := I1.tuple hqy
  have pL : s1.heap.IsList a its.toArray := p1.isList
  have pT : s1.heap.IsTuple b jts.toArray := p2
  have al : a < s1.heap.objs.size := by obtain ⟨o, z, _⟩ := pL; exact Heap.lt_size z
  have bl : b < s1.heap.objs.size := by obtain ⟨o, z, _⟩ := pT; exact Heap.lt_size z
  refine zip_begins2 (begins_list a its.toArray) (begins_tuple b jts.toArray) pL pT fun g hz hI hO g1 g2 hs2 hk => wpAny_pyIter_zip hz ?_
  have I2 : Inv X pins σ H1 { s1 with heap := g } := I1.kept (t' := s1.toks) hk
  refine ⟨s1.heap.objs.size + 4, [s1.heap.objs.size + 4, s1.heap.objs.size + 2, s1.heap.objs.size + 3, s1.heap.objs.size, s1.heap.objs.size + 1], _, _, H1, rfl, I2, turn_zipM (zip_sep2 (fp1 := [a]) (fp2 := [b]) (fun c m => by rw [List.mem_singleton.mp m]; exact al) (fun c m => by rw [List.mem_singleton.mp m]; exact bl)) (Nat.ne_of_lt al) (Nat.ne_of_lt (Nat.lt_succ_of_lt bl)), ⟨hz, hI, ⟨_, _, hO⟩, ⟨_, g1, rfl, rfl⟩, ⟨_, g2, rfl, rfl⟩⟩, fun c hcm => ?_, q⟩
  have hle : s1.heap.objs.size ≤ c := by
    have cs : c = s1.heap.objs.size + 4 ∨ c = s1.heap.objs.size + 2 ∨ c = s1.heap.objs.size + 3 ∨ c = s1.heap.objs.size ∨ c = s1.heap.objs.size + 1 := by simpa using hcm
    rcases cs with z | z | z | z | z <;> rw [z] <;> first | exact Nat.le_refl _ | exact Nat.le_add_right _ _
  exact I1.fpOk hle (I1.hok.fresh hle)
end RF

/-! ## RFBits -/
/-! Names told as bits: bits_of, numbers_of, comes_to_rest. -/
namespace RF
open PySem PySem.Spec PyProof.Rows L2
/-! ### either of two readings -/
section
variable {X : Cx}
theorem ps_or {st : Stmt} {t1 t2 : TS} (h1 : PS X st t1) (h2 : PS X st t2) : PS X st (fun D σ H => t1 D σ H ∨ t2 D σ H) := ⟨fun pins s σ H D I h => h.elim (h1.run pins s σ H D I) (h2.run pins s σ H D I)⟩
theorem pe_or2 {e : Expr} {t1 t2 : TE} (h1 : PE X e t1) (h2 : PE X e t2) : PE X e (fun σ H Q => t1 σ H Q ∨ t2 σ H Q) := ⟨fun pins s σ H Q I h => h.elim (h1.run pins s σ H Q I) (h2.run pins s σ H Q I)⟩
end
/-! ### bits -/
def bitsOf (l : List Nat) : Nat := l.foldl (fun b i => b ||| 2 ^ i) 0
theorem bits_test : ∀ (l : List Nat) (z i : Nat), (l.foldl (fun b i => b ||| 2 ^ i) z).testBit i = (z.testBit i || decide (i ∈ l))
  | [], z, i => by simp
  | x :: r, z, i => by
    rw [List.foldl_cons, bits_test r, Nat.testBit_or, Nat.testBit_two_pow]
    by_cases h : x = i
    · subst h; simp
    · have h2 : ¬ i = x := fun e => h e.symm
      simp [h, h2, List.mem_cons]
theorem bitsOf_test (l : List Nat) (i : Nat) : (bitsOf l).testBit i = decide (i ∈ l) := by
  unfold bitsOf
  rw [bits_test, Nat.zero_testBit, Bool.false_or]
theorem bitsOf_eq {l r : List Nat} (h : ∀ i, i ∈ l ↔ i ∈ r) : bitsOf l = bitsOf r := by
  refine Nat.eq_of_testBit_eq fun i => ?_
  rw [bitsOf_test, bitsOf_test, decide_eq_decide]
  exact h i
theorem bitsOf_lt {l : List Nat} {n : Nat} (h : ∀ i ∈ l, i < n) : bitsOf l < 2 ^ n := by
  refine Nat.lt_pow_two_of_testBit _ fun i hi => ?_
  rw [bitsOf_test]
  exact decide_eq_false fun m => absurd (h i m) (by omega)
theorem bitsOf_zero {l : List Nat} : bitsOf l = 0 ↔ l = [] := by
  constructor
  · intro h
    cases l with
    | nil => rfl
    | cons x r =>
      have z := bitsOf_test (x :: r) x
      rw [h, Nat.zero_testBit] at z
      simp at z
  · rintro rfl; rfl
theorem bits_sub {a b : Nat} : (a &&& b = a) ↔ ∀ i, a.testBit i = true → b.testBit i = true := by
  constructor
  · intro h i hi
    rw [← h, Nat.testBit_and, Bool.and_eq_true] at hi
    exact hi.2
  · intro h
    refine Nat.eq_of_testBit_eq fun i => ?_
    rw [Nat.testBit_and]
    cases e : a.testBit i with
    | false => rfl
    | true => rw [h i e]; rfl
theorem bor_nat (a b : Nat) : Builtin.bitOr (a : Int) (b : Int) = ((a ||| b : Nat) : Int) := by
  have n1 : Builtin.bitNot (a : Int) = -((a : Int) + 1) := by unfold Builtin.bitNot; omega
  have n2 : Builtin.bitNot (b : Int) = -((b : Int) + 1) := by unfold Builtin.bitNot; omega
  have f1 : decide (0 ≤ Builtin.bitNot (a : Int)) = false := decide_eq_false (by rw [n1]; omega)
  have f2 : decide (0 ≤ Builtin.bitNot (b : Int)) = false := decide_eq_false (by rw [n2]; omega)
  have b1 : (Builtin.bitNot (Builtin.bitNot (a : Int))).toNat = a := by rw [n1]; unfold Builtin.bitNot; omega
  have b2 : (Builtin.bitNot (Builtin.bitNot (b : Int))).toNat = b := by rw [n2]; unfold Builtin.bitNot; omega
  unfold Builtin.bitOr Builtin.bitAnd
  rw [f1, f2]
  simp only [b1, b2]
  unfold Builtin.bitNot
  omega
section
variable {X : Cx}
theorem op_orN : OpR X (binaryOp .BitOr) (fun x y H Q => ∃ a b : Nat, x = .int (a : Int) ∧ y = .int (b : Int) ∧ Q (.int ((a ||| b : Nat) : Int)) H) := by
  intro pins s σ H x y v u Q I rx ry h
  obtain ⟨a, b, rfl, rfl, q⟩ := h
  exact op_or pins s σ H _ _ v u Q I rx ry ⟨_, _, rfl, rfl, show Q (.int (Builtin.bitOr (a : Int) (b : Int))) H by rw [bor_nat]; exact q⟩
theorem op_andN : OpR X (binaryOp .BitAnd) (fun x y H Q => ∃ a b : Nat, x = .int (a : Int) ∧ y = .int (b : Int) ∧ Q (.int ((a &&& b : Nat) : Int)) H) := by
  intro pins s σ H x y v u Q I rx ry h
  obtain ⟨a, b, rfl, rfl, q⟩ := h
  exact op_and pins s σ H _ _ v u Q I rx ry ⟨_, _, rfl, rfl, show Q (.int (Builtin.bitAnd (a : Int) (b : Int))) H by rw [PySem.W.os_band]; exact q⟩
end
def vN (l : List Nat) : List V := l.map fun i : Nat => V.int (i : Int)
/-! ### bits_of -/
abbrev sBits : Stmt := top 30
def spBits (K : PySem.W.Frag) : Sp := fun vs H Q _ => ∃ (a : Addr) (l : List Nat), vs = [.ref a] ∧ (SqL K H a (vN l) ∨ ∃ kvs : List (Key × V), H a = some (.dK kvs) ∧ kvs.map (·.1) = l.map fun i : Nat => (Sum.inl (i : Int) : Key)) ∧ (∀ i ∈ l, i < 64) ∧ Q (.int (bitsOf l : Nat)) H
abbrev nBits : List Str := ["numbers", "bits", "number"]
theorem scBits : FnScope nBits ["numbers"] (defScope sBits) := ⟨rfl, rfl, rfl, by decide +kernel, rfl, by decide +kernel, by decide +kernel⟩
theorem vN_get {l : List Nat} {i : Nat} {x : V} (h : (vN l)[i]? = some x) : ∃ n, l[i]? = some n ∧ x = .int (n : Int) := by
  unfold vN at h
  rw [List.getElem?_map] at h
  obtain ⟨n, e, rfl⟩ := Option.map_eq_some_iff.mp h
  exact ⟨n, e, rfl⟩
theorem vN_len (l : List Nat) : (vN l).length = l.length := List.length_map ..
theorem bits_next {l : List Nat} {i n : Nat} (h : l[i]? = some n) : bitsOf (l.take (i + 1)) = bitsOf (l.take i) ||| 2 ^ n := fold_take _ _ h
section
variable {P : Program} {w : World} {K : PySem.W.Frag} {mg : Str → Option Value} {base : Heap}
theorem ok_bits {f : Addr} {fd : FuncData} (F : Fun K "bits_of" "bits_of" sBits f fd) : FnOk P w K mg base CX0 1 f fd ["numbers"] (spBits K) := by
  refine F.ok scBits (fun vs H Q E h => ?_) (fun cdv A outer s H vs Q E hr h => ?_)
  · obtain ⟨a, l, rfl, _⟩ := h
    rfl
  · refine ⟨_, pss_cons (ps_set (i := 1) scBits.nd rfl (Or.inl rfl) pe_int)
      (pss_cons (ps_or (ps_for PassesOwn.never rfl (pi_list (pv 0)) (pg_name (i := 2) scBits.nd rfl (Or.inl rfl))
          (pss_one (ps_set (i := 1) scBits.nd rfl (Or.inl rfl) (pe_op op_orN (pv 1) (pe_op op_oneShl pe_int (pv 2))))))
        (ps_lock (ps_for PassesOwn.never rfl (pi_keys (pv 0)) (pg_name (i := 2) scBits.nd rfl (Or.inl rfl))
          (pss_one (ps_set (i := 1) scBits.nd rfl (Or.inl rfl) (pe_op op_orN (pv 1) (pe_op op_oneShl pe_int (pv 2))))))))
      (pss_one (ps_ret (pv 1)))), ?_⟩
    obtain ⟨a, l, rfl, ha, hl, q⟩ := h
    have two : ∀ n : Nat, (2 : Int) ^ n = ((2 ^ n : Nat) : Int) := fun n => by rw [Int.natCast_pow]; rfl
    rcases ha with ha | ⟨kvs, ha, ek⟩
    · refine .inl ⟨_, rfl, a, rfl, ⟨_, ha⟩, for_list (K := K) (a := a) (xs := vN l) (fun i σ H' => ∃ u : Option V, σ = [some (.ref a), some (.int (bitsOf (l.take i) : Nat)), u] ∧ H' = H) ⟨none, rfl, rfl⟩ (fun i σ H' _ ⟨_, _, e⟩ => e ▸ ha) ?_ ?_⟩
      · rintro i x σ H1 hi ⟨u, rfl, rfl⟩
        obtain ⟨n, en, rfl⟩ := vN_get hi
        have := hl n (List.mem_of_getElem? en)
        refine ⟨_, rfl, _, rfl, n, rfl, rfl, by omega, _, 2 ^ n, rfl, by rw [two], some (.int n), ?_, rfl⟩
        rw [bits_next en]
        rfl
      · rintro σ H1 ⟨u, rfl, rfl⟩
        rw [vN_len, List.take_length]
        exact ⟨_, rfl, q⟩
    · refine .inr ⟨a, _, ha, True.intro, fun od => ⟨_, rfl, a, od, rfl, .inl ⟨kvs, upd_same, ?_⟩⟩⟩
      refine for_it (walk_keys (d := a) (o := od) (kvs := kvs)) (fun i σ H' => ∃ u : Option V, σ = [some (.ref a), some (.int (bitsOf (l.take i) : Nat)), u] ∧ H' = upd H a (.frz od (.dK kvs))) ⟨none, rfl, rfl⟩ (fun i σ H' _ ⟨_, _, e⟩ => by rw [e, upd_same]) ?_ ?_
      · rintro i x σ H1 H2 hi ⟨u, rfl, rfl⟩ ⟨rfl, k, v, ekv, rfl⟩
        have e1 : (kvs.map (·.1))[i]? = some k := by rw [List.getElem?_map, ekv]; rfl
        rw [ek, List.getElem?_map] at e1
        obtain ⟨n, en, rfl⟩ := Option.map_eq_some_iff.mp e1
        have := hl n (List.mem_of_getElem? en)
        refine ⟨_, rfl, _, rfl, n, rfl, rfl, by omega, _, 2 ^ n, rfl, by rw [two], some (.int n), ?_, rfl⟩
        rw [bits_next en]
        rfl
      · rintro σ H1 ⟨u, rfl, rfl⟩
        have len : kvs.length = l.length := by
          have := congrArg List.length ek
          rw [List.length_map, List.length_map] at this
          exact this
        rw [len, List.take_length]
        refine ⟨upd_same, _, rfl, ?_⟩
        rw [upd_upd]
        have e : upd H a (.dK kvs) = H := by
          funext b
          unfold upd
          split
          · next e => rw [e, ha]
          · rfl
        rw [e]
        exact q
end
/-! ### numbers_of -/
abbrev sNums : Stmt := top 31
def numsOf (b : Nat) : List Nat := (List.range (Builtin.Int.intBits (b : Int))).filter fun i => b.testBit i
theorem bits_le {b n : Nat} (h : b < 2 ^ n) : Builtin.Int.intBits (b : Int) ≤ n := PySem.intBits_le_iff.mpr h
theorem bits_full (b : Nat) : b < 2 ^ Builtin.Int.intBits (b : Int) := PySem.intBits_le_iff.mp (Nat.le_refl (Builtin.Int.intBits (b : Int)))
theorem numsOf_eq {b n : Nat} (h : b < 2 ^ n) : numsOf b = (List.range n).filter fun i => b.testBit i := by
  have le := bits_le h
  obtain ⟨m, rfl⟩ := Nat.exists_eq_add_of_le le
  unfold numsOf
  rw [List.range_add, List.filter_append, List.filter_map]
  have z : (List.range m).filter ((fun i => b.testBit i) ∘ fun x => Builtin.Int.intBits (b : Int) + x) = [] := by
    refine List.filter_eq_nil_iff.mpr fun x _ => ?_
    show ¬ b.testBit (Builtin.Int.intBits (b : Int) + x) = true
    rw [Nat.testBit_lt_two_pow (Nat.lt_of_lt_of_le (bits_full b) (Nat.pow_le_pow_right (by decide) (Nat.le_add_right _ _)))]
    exact Bool.false_ne_true
  rw [z]
  simp
theorem filter_range_next (p : Nat → Bool) (i : Nat) : (List.range (i + 1)).filter p = (List.range i).filter p ++ if p i then [i] else [] := by
  rw [List.range_succ, List.filter_append, List.filter_cons, List.filter_nil]
def spNums : Sp := fun vs H Q _ => ∃ b : Nat, vs = [.int (b : Int)] ∧ b < 2 ^ 64 ∧ ∀ (q : Addr), H q = none → Q (.ref q) (upd H q (.lst (vN (numsOf b))))
theorem scNums : FnScope ["bits", "number"] ["bits"] (defScope sNums) := ⟨rfl, rfl, rfl, by decide +kernel, rfl, by decide +kernel, by decide +kernel⟩
section
variable {P : Program} {w : World} {K : PySem.W.Frag} {mg : Str → Option Value} {base : Heap}
theorem ok_nums {f : Addr} {fd : FuncData} (F : Fun K "numbers_of" "numbers_of" sNums f fd) (O : Own mg) : FnOk P w K mg base CX0 1 f fd ["bits"] spNums := by
  refine F.ok scNums (fun vs H Q E h => ?_) (fun cdv A outer s H vs Q E hr h => ?_)
  · obtain ⟨a, rfl, _⟩ := h
    rfl
  · refine ⟨_, pss_one (ps_ret (pe_lc (own := [("number", 1)]) (g := gName 1) rfl scNums.nd (pi_range1 rfl O.range (pa_cons (pe_bits (pv 0)) pa_nil)) (blkOk_by (N := ["bits", "number"]) (sc := defScope sNums) (by decide +kernel))
          (fun _ _ _ _ _ => pg_name (i := 1) scNums.nd rfl (Or.inl rfl))
          (fun _ _ _ _ _ => pts_one (pt_cmpR op_eq (pe_op op_odd (pe_op op_shrN (pv 0) (pv 1)) pe_int) pe_int (nomark _)))
          (fun _ _ _ _ _ => pv 1))), ?_⟩
    obtain ⟨b, rfl, hb, q⟩ := h
    have le := bits_le hb
    refine ⟨_, rfl, _, rfl, _, rfl, by omega, by omega, fun D hD => ?_⟩
    refine lc_range (lo := 0) (fun i H' => H' = upd H D (.lst (vN ((List.range i).filter fun i => b.testBit i)))) rfl ?_ ?_
    · rintro i H1 hi rfl
      have hi : i < Builtin.Int.intBits (b : Int) := by rw [Int.toNat_natCast] at hi; exact hi
      have next := filter_range_next (fun i => b.testBit i) i
      have dv : (b : Int) / 2 ^ i = ((b / 2 ^ i : Nat) : Int) := by rw [Int.natCast_ediv, Int.natCast_pow]; rfl
      refine ⟨rfl, _, rfl, _, rfl, (b : Int), i, rfl, by rw [Int.zero_add], b / 2 ^ i, by rw [dv], rfl, rfl, _, rfl, ?_⟩
      rw [dec_int]
      have tb : b.testBit i = decide (b / 2 ^ i % 2 = 1) := Nat.testBit_eq_decide_div_mod_eq
      by_cases c : b / 2 ^ i % 2 = 1
      · rw [decide_eq_true c] at tb
        rw [tb, if_pos rfl] at next
        rw [show (((b / 2 ^ i % 2 : Nat) : Int) == 1) = true by rw [c]; rfl]
        refine iteT ⟨_, rfl, _, upd_same, ?_, ?_⟩
        · rw [vN_len]
          have z1 := List.length_filter_le (fun i => b.testBit i) (List.range i)
          rw [List.length_range] at z1
          have : (64 : Nat) < sizeLine := by decide
          omega
        · rw [upd_upd, next, Int.zero_add]
          unfold vN
          rw [List.map_append]
          rfl
      · rw [decide_eq_false c] at tb
        rw [tb, if_neg Bool.false_ne_true, List.append_nil] at next
        rw [show (((b / 2 ^ i % 2 : Nat) : Int) == 1) = false from beq_eq_false_iff_ne.mpr (by omega)]
        refine iteF ?_
        rw [next]
    · rintro H1 rfl
      rw [Int.toNat_natCast]
      exact q D hD
end
/-! ### comes_to_rest -/
abbrev sRest : Stmt := top 34
def atRest (i after sure : Nat) : Bool := if after = 0 then decide (i = 0) else decide (after &&& sure = after)
def spRest : Sp := fun vs H Q _ => ∃ i a s : Nat, vs = [.int (i : Int), .int (a : Int), .int (s : Int)] ∧ Q (.bl (atRest i a s)) H
theorem scRest : FnScope ["number", "after", "sure"] ["number", "after", "sure"] (defScope sRest) := ⟨rfl, rfl, rfl, by decide +kernel, rfl, by decide +kernel, by decide +kernel⟩
section
variable {P : Program} {w : World} {K : PySem.W.Frag} {mg : Str → Option Value} {base : Heap}
theorem ok_rest {f : Addr} {fd : FuncData} (F : Fun K "comes_to_rest" "comes_to_rest" sRest f fd) (gT : ∃ t, mg "TOGETHER" = some (.int 0 t)) : FnOk P w K mg base CX0 1 f fd ["number", "after", "sure"] spRest := by
  obtain ⟨tk, gT⟩ := gT
  refine F.ok scRest (fun vs H Q E h => ?_) (fun cdv A outer s H vs Q E hr h => ?_)
  · obtain ⟨i, a, s, rfl, _⟩ := h
    rfl
  · refine ⟨_, pss_cons (ps_if (pt_cmpR op_eq (pv 1) pe_int (nomark _)) (pss_one (ps_ret (pe_cmpR op_eq (pv 0) (pe_glob (v := .int 0) rfl gT ⟨_, rfl⟩) (nomark _)))) pss_nil)
      (pss_one (ps_ret (pe_cmpR op_eq (pe_op op_andN (pv 1) (pv 2)) (pv 1) (nomark _)))), ?_⟩
    obtain ⟨i, a, s, rfl, q⟩ := h
    unfold atRest at q
    refine ⟨_, rfl, rfl, _, rfl, ?_⟩
    rw [dec_int]
    by_cases c : a = 0
    · rw [if_pos c] at q
      rw [show ((a : Int) == 0) = true from beq_iff_eq.mpr (by omega)]
      refine iteT ⟨_, rfl, rfl, ?_⟩
      show Q (.bl (decide (V.int (i : Int) = V.int 0))) H
      rw [dec_int, show ((i : Int) == 0) = decide (i = 0) by rw [Bool.eq_iff_iff, beq_iff_eq, decide_eq_true_eq]; omega]
      exact q
    · rw [if_neg c] at q
      rw [show ((a : Int) == 0) = false from beq_eq_false_iff_ne.mpr (by omega)]
      refine iteF ⟨_, rfl, _, rfl, a, s, rfl, rfl, _, rfl, rfl, ?_⟩
      show Q (.bl (decide (V.int ((a &&& s : Nat) : Int) = V.int (a : Int)))) H
      rw [dec_int, show (((a &&& s : Nat) : Int) == (a : Int)) = decide (a &&& s = a) by rw [Bool.eq_iff_iff, beq_iff_eq, decide_eq_true_eq]; omega]
      exact q
end
end RF

/-! ## RFSureOf -/
/-! What gathers surely, told as bits: sure_of. -/
namespace RF
open PySem PySem.Spec PyProof.Rows L2
/-- the least set: at rest together, or all that may come next is in it -/
inductive SureA (as : List Nat) : Nat → Prop
  | rest : as[0]? = some 0 → SureA as 0
  | go {i a : Nat} : as[i]? = some a → a ≠ 0 → (∀ j, a.testBit j = true → SureA as j) → SureA as i
theorem rest_sure {as : List Nat} {i a s : Nat} (h : as[i]? = some a) (hs : ∀ j, s.testBit j = true → SureA as j) (r : atRest i a s = true) : SureA as i := by
  unfold atRest at r
  by_cases c : a = 0
  · rw [if_pos c] at r
    have z := of_decide_eq_true r
    subst c z
    exact .rest h
  · rw [if_neg c] at r
    have z := bits_sub.mp (of_decide_eq_true r)
    exact .go h c fun j hj => hs j (z j hj)
/-- closed: whoever comes to rest by it is in it -/
def Closed (as : List Nat) (i s : Nat) : Prop := ∀ j a, j < i → as[j]? = some a → atRest j a s = true → s.testBit j = true
theorem closed_sure {as : List Nat} {s : Nat} (h : Closed as as.length s) {i : Nat} (x : SureA as i) : s.testBit i = true := by
  induction x with
  | rest e => exact h 0 0 (List.getElem?_eq_some_iff.mp e).1 e (by unfold atRest; rw [if_pos rfl]; rfl)
  | @go i a e c _ ih =>
    refine h i a (List.getElem?_eq_some_iff.mp e).1 e ?_
    unfold atRest
    rw [if_neg c]
    exact decide_eq_true (bits_sub.mpr ih)
theorem or_pow_test (s i j : Nat) : (s ||| 2 ^ i).testBit j = (s.testBit j || decide (i = j)) := by
  rw [Nat.testBit_or, Nat.testBit_two_pow]
theorem or_pow_lt {s i n : Nat} (h : s < 2 ^ n) (hi : i < n) : s ||| 2 ^ i < 2 ^ n := Nat.or_lt_two_pow h (Nat.pow_lt_pow_right (by decide) hi)
abbrev sSureOf : Stmt := top 35
def spSureOf (K : PySem.W.Frag) : Sp := fun vs H Q _ => ∃ (a : Addr) (as : List Nat), vs = [.ref a] ∧ SqL K H a (vN as) ∧ as.length ≤ 64 ∧ ∀ (H' : Hp) (s : Nat), Same H H' → s < 2 ^ as.length → (∀ i, s.testBit i = true ↔ SureA as i) → Q (.int (s : Int)) H'
abbrev nSureOf : List Str := ["afters", "sure", "before", "number", "after"]
theorem scSureOf : FnScope nSureOf ["afters"] (defScope sSureOf) := ⟨rfl, rfl, rfl, by decide +kernel, rfl, by decide +kernel, by decide +kernel⟩
/-- what holds within a round, of the bits at its beginning and those of now -/
structure Round (as : List Nat) (s0 i s : Nat) : Prop where
  lt : s < 2 ^ as.length
  up : ∀ j, s0.testBit j = true → s.testBit j = true
  sound : ∀ j, s.testBit j = true → SureA as j
  cl : s = s0 → Closed as i s0
theorem Round.next {as : List Nat} {s0 i s a : Nat} (R : Round as s0 i s) (h : as[i]? = some a) : Round as s0 (i + 1) (if atRest i a s then s ||| 2 ^ i else s) := by
  have hi := (List.getElem?_eq_some_iff.mp h).1
  cases c : atRest i a s with
  | true =>
    rw [if_pos rfl]
    have up : ∀ j, s.testBit j = true → (s ||| 2 ^ i).testBit j = true := fun j hj => by rw [or_pow_test, hj]; rfl
    refine ⟨or_pow_lt R.lt hi, fun j hj => up j (R.up j hj), fun j hj => ?_, fun e j b hj hb r => ?_⟩
    · rw [or_pow_test] at hj
      cases z : s.testBit j with
      | true => exact R.sound j z
      | false =>
        rw [z, Bool.false_or] at hj
        have := of_decide_eq_true hj
        subst this
        exact rest_sure h R.sound c
    · have es : s = s0 := Nat.eq_of_testBit_eq fun x => by
        cases z : s.testBit x with
        | true => rw [← e]; exact (up x z).symm
        | false =>
          cases z0 : s0.testBit x with
          | true => rw [R.up x z0] at z; cases z
          | false => rfl
      rcases Nat.lt_succ_iff_lt_or_eq.mp hj with hj | rfl
      · exact R.cl es j b hj hb r
      · rw [← e, or_pow_test]
        simp
  | false =>
    rw [if_neg Bool.false_ne_true]
    refine ⟨R.lt, R.up, R.sound, fun e j b hj hb r => ?_⟩
    rcases Nat.lt_succ_iff_lt_or_eq.mp hj with hj | rfl
    · exact R.cl e j b hj hb r
    · rw [h] at hb
      cases hb
      subst e
      rw [c] at r
      cases r
theorem up_le {a b : Nat} (h : ∀ j, a.testBit j = true → b.testBit j = true) : a ≤ b := by
  have z := bits_sub.mpr h
  rw [← z]
  exact Nat.and_le_right
section
variable {P : Program} {w : World} {K : PySem.W.Frag} {mg : Str → Option Value} {base : Heap}
theorem ok_sureOf {f fR : Addr} {fd fdR : FuncData} (F : Fun K "sure_of" "sure_of" sSureOf f fd) (O : Own mg) (N : Def P w K mg base 1 "comes_to_rest" ["number", "after", "sure"] spRest fR fdR) : FnOk P w K mg base CX0 2 f fd ["afters"] (spSureOf K) := by
  refine F.ok scSureOf (fun vs H Q E h => ?_) (fun cdv A outer s H vs Q E hr h => ?_)
  · obtain ⟨a, as, rfl, _⟩ := h
    rfl
  · refine ⟨_, pss_cons (ps_set (i := 1) scSureOf.nd rfl (Or.inl rfl) pe_int)
      (pss_cons (ps_set (i := 2) scSureOf.nd rfl (Or.inl rfl) pe_non)
      (pss_cons (ps_while PassesOwn.never (pt_cmpR op_ne (pv 1) (pv 2) (nomark _))
        (pss_cons (ps_set (i := 2) scSureOf.nd rfl (Or.inl rfl) (pv 1))
        (pss_one (ps_for PassesOwn.never rfl (pi_enum (by rfl) O.enumerate (pa_cons (pv 0) pa_nil)) (pg_tup rfl (pgs_cons (pg_name (i := 3) scSureOf.nd rfl (Or.inl rfl)) (pgs_cons (pg_name (i := 4) scSureOf.nd rfl (Or.inl rfl)) pgs_nil)))
          (pss_one (ps_if (pt_val (pe_call N.ok hr rfl N.g N.kp N.b .nil pass0 (pa_cons (pv 3) (pa_cons (pv 4) (pa_cons (pv 1) pa_nil)))))
            (pss_one (ps_set (i := 1) scSureOf.nd rfl (Or.inl rfl) (pe_op op_orN (pv 1) (pe_op op_oneShl pe_int (pv 3))))) pss_nil))))))
      (pss_one (ps_ret (pv 1))))), ?_⟩
    obtain ⟨a, as, rfl, ha, len, k⟩ := h
    have two : ∀ n : Nat, (2 : Int) ^ n = ((2 ^ n : Nat) : Int) := fun n => by rw [Int.natCast_pow]; rfl
    have pos : 0 < 2 ^ as.length := Nat.pow_pos (by decide)
    refine ⟨fun m σ H' => ∃ (s : Nat) (bv : V) (u v : Option V), m = 2 * (2 ^ as.length - s) + (if bv = V.int (s : Int) then 0 else 1) ∧ σ = [some (.ref a), some (.int (s : Int)), some bv, u, v] ∧ Same H H' ∧ s < 2 ^ as.length ∧ (∀ j, s.testBit j = true → SureA as j) ∧
      (bv = .non ∨ ∃ b : Nat, bv = .int (b : Int) ∧ (b = s → Closed as as.length s)), ⟨_, 0, .non, none, none, rfl, rfl, Same.refl _, pos, fun j hj => ?_, .inl rfl⟩, ?_⟩
    · rw [Nat.zero_testBit] at hj; cases hj
    rintro m σ H1 ⟨s, bv, u, v, em, rfl, s1, lt, so, hb⟩
    have sc : scal (V.int (s : Int)) bv = true := by
      rcases hb with rfl | ⟨b, rfl, _⟩ <;> rfl
    refine ⟨_, rfl, _, rfl, sc, _, rfl, ?_⟩
    by_cases c : V.int (s : Int) = bv
    · rw [decide_eq_true c]
      refine iteF ⟨_, rfl, ?_⟩
      rcases hb with z | ⟨b, z, cl⟩
      · rw [z] at c; cases c
      · rw [z] at c
        have e : b = s := by have := V.int.inj c; omega
        exact k H1 s s1 lt fun i => ⟨so i, closed_sure (cl e)⟩
    · rw [decide_eq_false c]
      rw [if_neg (fun z => c z.symm)] at em
      refine iteT ⟨_, fun σ' H' z => z, ?_⟩
      refine ⟨_, rfl, _, rfl, a, vN as, rfl, s1.seq ha, ?_⟩
      refine for_it (walk_enum (K := K) (a := a) (xs := vN as)) (fun i σ H' => ∃ (t : Nat) (u v : Option V), σ = [some (.ref a), some (.int (t : Int)), some (.int (s : Int)), u, v] ∧ Same H H' ∧ Round as s i t)
        ⟨s, u, v, rfl, s1, lt, fun _ z => z, so, fun _ j a hj => absurd hj (Nat.not_lt_zero _)⟩ (fun i σ H' _ ⟨_, _, _, _, s2, _⟩ => s2.seq ha) ?_ ?_
      · rintro i x σ H2 H3 hi ⟨t, u, v, rfl, s2, R⟩ ⟨T, x1, x2, rfl, hT, rfl, e1, e2⟩
        cases Option.some.inj e1
        obtain ⟨n, en, rfl⟩ := vN_get e2
        have hi2 := (List.getElem?_eq_some_iff.mp en).1
        have nx := R.next en
        have s3 := s2.trans (same_new (o := .tup [V.int (i : Nat), V.int (n : Int)]) hT)
        refine ⟨T, _, rfl, SqT.of upd_same, rfl, _, _, rfl, _, _, rfl, rfl, ?_⟩
        refine ⟨_, rfl, _, rfl, _, rfl, i, n, t, rfl, _, rfl, ?_⟩
        cases c : atRest i n t with
        | true =>
          rw [c, if_pos rfl] at nx
          refine iteT ⟨_, rfl, _, rfl, i, rfl, rfl, by omega, t, 2 ^ i, rfl, by rw [two], t ||| 2 ^ i, _, _, rfl, s3, nx⟩
        | false =>
          rw [c, if_neg Bool.false_ne_true] at nx
          exact iteF ⟨t, _, _, rfl, s3, nx⟩
      · rintro σ H2 ⟨t, u, v, rfl, s2, R⟩
        rw [vN_len] at R
        have le := up_le R.up
        have lt2 := R.lt
        refine ⟨_, ?_, t, .int (s : Int), u, v, rfl, rfl, s2, R.lt, R.sound, .inr ⟨s, rfl, fun e => ?_⟩⟩
        · rw [em]
          by_cases c2 : s = t
          · rw [if_pos (by rw [c2])]; omega
          · rw [if_neg (fun z => c2 (by have := V.int.inj z; omega))]; omega
        · rw [← e]; exact R.cl e.symm
end
end RF

/-! ## RFSteps0 -/
/-! steps_of, some_of, who_may_go, with_one_gone, rings_after. -/
namespace RF
open PySem PySem.Spec PyProof.Rows L2
/-! ### steps_of -/
abbrev sStep : Stmt := top 21
def stepsOf (looks : List Int) (p : Int) (done : Nat) : List Int :=
  if done = 0 then [] else if rowFrom looks p 1 = rowFrom looks p (-1) then [1, -1] else if HT.lexLt (rowFrom looks p 1) (rowFrom looks p (-1)) = decide (done = 1) then [1] else [-1]
def spStep (K : PySem.W.Frag) : Sp := fun vs H Q _ => ∃ (a : Addr) (ns : List Int) (p : Int) (done : Nat), vs = [.ref a, .int p, .int (done : Int)] ∧ SqT K H a (ns.map V.int) ∧ 0 < ns.length ∧ ns.length ≤ 100 ∧
  ∀ (H' : Hp) (q : Addr), Same H H' → H q = none → H' q = some (.lst ((stepsOf ns p done).map V.int)) → Q (.ref q) H'
abbrev nStep : List Str := ["looks", "place", "done", "onward", "backward"]
theorem scStep : FnScope nStep ["looks", "place", "done"] (defScope sStep) := ⟨rfl, rfl, rfl, by decide +kernel, rfl, by decide +kernel, by decide +kernel⟩
section
variable {P : Program} {w : World} {K : PySem.W.Frag} {mg : Str → Option Value} {base : Heap}
theorem ok_step {f fR : Addr} {fd fdR : FuncData} (F : Fun K "steps_of" "steps_of" sStep f fd) (R : Def P w K mg base 1 "row_from" ["ring", "place", "step"] (spRow K) fR fdR) : FnOk P w K mg base CX0 2 f fd ["looks", "place", "done"] (spStep K) := by
  refine F.ok scStep (fun vs H Q E h => ?_) (fun cdv A outer s H vs Q E hr h => ?_)
  · obtain ⟨a, ns, p, done, rfl, _⟩ := h
    rfl
  · refine ⟨_, pss_cons (ps_if (pt_cmpR op_eq (pv 2) pe_int (nomark _)) (pss_one (ps_ret (pe_lst pa_nil))) pss_nil)
      (pss_cons (ps_set (i := 3) scStep.nd rfl (Or.inl rfl) (pe_call R.ok hr rfl R.g R.kp R.b .nil pass0 (pa_cons (pv 0) (pa_cons (pv 1) (pa_cons pe_int pa_nil)))))
      (pss_cons (ps_set (i := 4) scStep.nd rfl (Or.inl rfl) (pe_call R.ok hr rfl R.g R.kp R.b .nil pass0 (pa_cons (pv 0) (pa_cons (pv 1) (pa_cons (pe_un un_neg pe_int) pa_nil)))))
      (pss_cons (ps_if (pt_cmpR (op_eqT hr.units) (pv 3) (pv 4) (nomark _)) (pss_one (ps_ret (pe_lst (pa_cons pe_int (pa_cons (pe_un un_neg pe_int) pa_nil))))) pss_nil)
      (pss_one (ps_ret (pe_ifExp (pt_cmpR op_eq (pe_cmpR (op_ltT hr.units0) (pv 3) (pv 4) (nomark _)) (pe_cmpR op_eq (pv 2) pe_int (nomark _)) (nomark _)) (pe_lst (pa_cons pe_int pa_nil)) (pe_lst (pa_cons (pe_un un_neg pe_int) pa_nil)))))))), ?_⟩
    obtain ⟨a, ns, p, done, rfl, ha, l1, l2, k⟩ := h
    unfold stepsOf at k
    refine ⟨_, rfl, rfl, _, rfl, ?_⟩
    rw [dec_int]
    by_cases c : done = 0
    · simp only [if_pos c] at k
      rw [show ((done : Int) == 0) = true from beq_iff_eq.mpr (by omega)]
      exact iteT ⟨Nat.zero_le _, fun q hq => k _ q (same_new hq) hq upd_same⟩
    · simp only [if_neg c] at k
      rw [show ((done : Int) == 0) = false from beq_eq_false_iff_ne.mpr (by omega)]
      refine iteF ⟨_, rfl, _, rfl, a, ns, p, 1, rfl, ha, l1, l2, ⟨by decide, by decide⟩, fun H1 q1 s1 n1 e1 => ?_⟩
      refine ⟨_, rfl, _, rfl, 1, rfl, a, ns, p, -1, rfl, same_tup s1 ha, l1, l2, ⟨by decide, by decide⟩, fun H2 q2 s2 n2 e2 => ?_⟩
      have t1 := SqT.of (K := K) (s2 _ _ e1)
      have t2 := SqT.of (K := K) e2
      have sA := s1.trans s2
      refine ⟨_, rfl, _, rfl, q1, q2, _, _, rfl, rfl, t1, t2, _, rfl, ?_⟩
      by_cases c2 : rowFrom ns p 1 = rowFrom ns p (-1)
      · simp only [if_pos c2] at k
        rw [decide_eq_true c2]
        exact iteT ⟨1, rfl, by show 2 ≤ sizeLine; decide, fun q hq => k _ q (sA.trans (same_new hq)) (sA.free hq) upd_same⟩
      · simp only [if_neg c2] at k
        rw [decide_eq_false c2]
        refine iteF ⟨_, rfl, _, rfl, q1, q2, _, _, rfl, rfl, t1, t2, _, rfl, rfl, rfl, _, rfl, ?_⟩
        have ed : decide (V.int (done : Int) = V.int 1) = decide (done = 1) := by rw [dec_int, Bool.eq_iff_iff, beq_iff_eq, decide_eq_true_eq]; omega
        rw [dec_bl, ed]
        by_cases c3 : HT.lexLt (rowFrom ns p 1) (rowFrom ns p (-1)) = decide (done = 1)
        · simp only [if_pos c3] at k
          rw [beq_iff_eq.mpr c3]
          exact iteT ⟨by show 1 ≤ sizeLine; decide, fun q hq => k _ q (sA.trans (same_new hq)) (sA.free hq) upd_same⟩
        · simp only [if_neg c3] at k
          rw [beq_eq_false_iff_ne.mpr c3]
          exact iteF ⟨1, rfl, by show 1 ≤ sizeLine; decide, fun q hq => k _ q (sA.trans (same_new hq)) (sA.free hq) upd_same⟩
end
/-! ### lists of lists -/
abbrev LL := List (Addr × List V)
def refL (L : LL) : List V := L.map fun p => V.ref p.1
def Lsts (H : Hp) (L : LL) : Prop := ∀ p ∈ L, H p.1 = some (.lst p.2)
theorem Lsts.same {H H' : Hp} {L : LL} (h : Lsts H L) (e : Same H H') : Lsts H' L := fun p m => e _ _ (h p m)
theorem Lsts.upd {H : Hp} {L : LL} {D : Addr} {o : HO} (h : Lsts H L) (n : D ∉ L.map (·.1)) : Lsts (upd H D o) L := fun p m => by
  have z : p.1 ≠ D := fun z => n (by rw [← z]; exact List.mem_map_of_mem m)
  rw [upd_ne z]
  exact h p m
theorem cut_tail (xs : List V) : cutV xs (some 1) none = xs.tail := by
  have e : HT.sIx xs.length 0 (some 1) = min 1 xs.length := HT.sIx_nat xs.length 0 1
  unfold cutV
  rw [e, HT.sIx_none]
  cases xs with
  | nil => rfl
  | cons x r =>
    rw [List.length_cons, Nat.min_eq_left (by omega)]
    show r.take (r.length + 1 - 1) = r
    rw [Nat.add_sub_cancel, List.take_length]
theorem Lsts.snoc {H : Hp} {L : LL} {a : Addr} {xs : List V} (h : Lsts H L) (e : H a = some (.lst xs)) : Lsts H (L ++ [(a, xs)]) := fun p m => by
  rcases List.mem_append.mp m with m | m
  · exact h p m
  · rw [List.mem_singleton.mp m]; exact e
theorem refL_len (L : LL) : (refL L).length = L.length := List.length_map ..
theorem refL_get {L : LL} {i : Nat} {x : V} (h : (refL L)[i]? = some x) : ∃ p, L[i]? = some p ∧ x = V.ref p.1 := by
  unfold refL at h
  rw [List.getElem?_map] at h
  obtain ⟨p, e, rfl⟩ := Option.map_eq_some_iff.mp h
  exact ⟨p, e, rfl⟩
theorem refL_snoc (L : LL) (a : Addr) (xs : List V) : refL L ++ [V.ref a] = refL (L ++ [(a, xs)]) := by
  unfold refL
  rw [List.map_append]
  rfl
theorem LL_len {L : LL} {xss : List (List V)} (h : L.map (·.2) = xss) : L.length = xss.length := by rw [← h, List.length_map]
/-! ### some_of -/
abbrev sSome : Stmt := top 23
def fewsUp {α : Type} (rs : List α) : List (List α) := rs.foldl (fun c r => c ++ c.map fun f => f ++ [r]) [[]]
theorem fews_len {α : Type} : ∀ (rs : List α) (c : List (List α)), (rs.foldl (fun c r => c ++ c.map fun f => f ++ [r]) c).length = c.length * 2 ^ rs.length
  | [], c => by simp
  | r :: rs, c => by
    rw [List.foldl_cons, fews_len rs, List.length_append, List.length_map, List.length_cons, Nat.pow_succ, Nat.add_mul, ← Nat.mul_add]
    congr 1
    omega
theorem fewsUp_len {α : Type} (rs : List α) : (fewsUp rs).length = 2 ^ rs.length := by
  unfold fewsUp
  rw [fews_len]
  simp
theorem fews_in {α : Type} : ∀ (rs : List α) (c : List (List α)) (m : Nat), (∀ f ∈ c, f.length ≤ m) → ∀ f ∈ rs.foldl (fun c r => c ++ c.map fun f => f ++ [r]) c, f.length ≤ m + rs.length
  | [], c, m, h, f, hf => by simpa using h f hf
  | r :: rs, c, m, h, f, hf => by
    rw [List.foldl_cons] at hf
    have := fews_in rs _ (m + 1) (fun g hg => ?_) f hf
    · rw [List.length_cons]; omega
    · rcases List.mem_append.mp hg with hg | hg
      · have := h g hg; omega
      · obtain ⟨g', mg', rfl⟩ := List.mem_map.mp hg
        have := h g' mg'
        rw [List.length_append]
        show g'.length + 1 ≤ m + 1
        omega
theorem fews_map {α β : Type} (f : α → β) : ∀ (rs : List α) (c : List (List α)), (rs.map f).foldl (fun c r => c ++ c.map fun f => f ++ [r]) (c.map (List.map f)) = (rs.foldl (fun c r => c ++ c.map fun f => f ++ [r]) c).map (List.map f)
  | [], c => rfl
  | r :: rs, c => by
    rw [List.map_cons, List.foldl_cons, List.foldl_cons, ← fews_map f rs]
    congr 1
    rw [List.map_append, List.map_map, List.map_map]
    congr 1
    refine List.map_congr_left fun x _ => ?_
    show x.map f ++ [f r] = (x ++ [r]).map f
    rw [List.map_append]
    rfl
theorem fewsUp_map {α β : Type} (f : α → β) (rs : List α) : fewsUp (rs.map f) = (fewsUp rs).map (List.map f) := fews_map f rs [[]]
theorem fews_mem {α : Type} : ∀ (rs : List α) (c : List (List α)), ∀ f ∈ rs.foldl (fun c r => c ++ c.map fun f => f ++ [r]) c, ∀ x ∈ f, x ∈ rs ∨ ∃ g ∈ c, x ∈ g
  | [], c, f, hf, x, hx => .inr ⟨f, hf, hx⟩
  | r :: rs, c, f, hf, x, hx => by
    rw [List.foldl_cons] at hf
    rcases fews_mem rs _ f hf x hx with h | ⟨g, mg, h⟩
    · exact .inl (List.mem_cons_of_mem _ h)
    · rcases List.mem_append.mp mg with mg | mg
      · exact .inr ⟨g, mg, h⟩
      · obtain ⟨g', mg', rfl⟩ := List.mem_map.mp mg
        rcases List.mem_append.mp h with h | h
        · exact .inr ⟨g', mg', h⟩
        · rw [List.mem_singleton.mp h]; exact .inl List.mem_cons_self
def spSome (K : PySem.W.Frag) : Sp := fun vs H Q _ => ∃ (a : Addr) (rs : List V), vs = [.ref a] ∧ SqL K H a rs ∧ rs.length ≤ 8 ∧
  ∀ (H' : Hp) (q : Addr) (L : LL), Same H H' → H q = none → H' q = some (.lst (refL L)) → Lsts H' L → L.map (·.2) = (fewsUp rs).tail → Q (.ref q) H'
abbrev nSome : List Str := ["robots", "chosen", "robot", "few"]
theorem scSome : FnScope nSome ["robots"] (defScope sSome) := ⟨rfl, rfl, rfl, by decide +kernel, rfl, by decide +kernel, by decide +kernel⟩
section
variable {P : Program} {w : World} {K : PySem.W.Frag} {mg : Str → Option Value} {base : Heap}
theorem ok_some {f : Addr} {fd : FuncData} (F : Fun K "some_of" "some_of" sSome f fd) : FnOk P w K mg base CX0 1 f fd ["robots"] (spSome K) := by
  refine F.ok scSome (fun vs H Q E h => ?_) (fun cdv A outer s H vs Q E hr h => ?_)
  · obtain ⟨a, rs, rfl, _⟩ := h
    rfl
  · refine ⟨_, pss_cons (ps_set (i := 1) scSome.nd rfl (Or.inl rfl) (pe_lst (pa_cons (pe_lst pa_nil) pa_nil)))
      (pss_cons (ps_for PassesOwn.never rfl (pi_list (pv 0)) (pg_name (i := 2) scSome.nd rfl (Or.inr rfl))
        (pss_one (ps_set (i := 1) scSome.nd rfl (Or.inl rfl) (pe_op op_cat (pv 1) (pe_lc (own := [("few", 3)]) (g := gName 3) (tt := tYes) rfl scSome.nd (pi_list (pv 1)) (blkOk_by (N := nSome) (sc := defScope sSome) (by decide +kernel))
          (fun _ _ _ _ _ => pg_name (i := 3) scSome.nd rfl (Or.inl rfl)) (fun _ _ _ _ _ => pts_nil)
          (fun _ _ _ _ _ => pe_op op_cat (pv 3) (pe_lst (pa_cons (pv 2) pa_nil))))))))
      (pss_one (ps_ret (pe_slice sl_list (pv 1) (po_some pe_int) po_none)))), ?_⟩
    obtain ⟨a, rs, rfl, ha, l8, k⟩ := h
    have big : (100000 : Nat) < sizeLine := by decide
    refine ⟨Nat.zero_le _, fun e he => ⟨by show 1 ≤ sizeLine; decide, fun D hD => ?_⟩⟩
    have s0 := (same_new (o := .lst []) he).trans (same_new (o := .lst [V.ref e]) hD)
    have eD : e ≠ D := fun z => by rw [← z, upd_same] at hD; cases hD
    refine ⟨_, rfl, a, rfl, ⟨_, s0.seq ha⟩, for_list (K := K) (a := a) (xs := rs) (fun i σ H' => ∃ (c : Addr) (L : LL) (u : Option V), σ = [some (.ref a), some (.ref c), u, none] ∧ Same H H' ∧ H c = none ∧ H' c = some (.lst (refL L)) ∧ Lsts H' L ∧ L.map (·.2) = fewsUp (rs.take i))
      ⟨D, [(e, [])], none, rfl, s0, (same_new he).free hD, upd_same, fun p m => ?_, rfl⟩ (fun i σ H' _ ⟨_, _, _, _, s1, _⟩ => s1.seq ha) ?_ ?_⟩
    · rw [List.mem_singleton.mp m, upd_ne eD, upd_same]
    · rintro i x σ H1 hi ⟨c, L, u, rfl, s1, nc, hc, tL, eL⟩
      have il := (List.getElem?_eq_some_iff.mp hi).1
      have step : fewsUp (rs.take (i + 1)) = fewsUp (rs.take i) ++ (fewsUp (rs.take i)).map fun f => f ++ [x] := fold_take _ _ hi
      have ll : L.length = 2 ^ i := by rw [LL_len eL, fewsUp_len, List.length_take, Nat.min_eq_left (Nat.le_of_lt il)]
      have p8 : 2 ^ i ≤ 2 ^ 8 := Nat.pow_le_pow_right (by decide) (by omega)
      have short : ∀ p ∈ L, p.2.length ≤ 8 := fun p m => by
        have z := fews_in (rs.take i) [[]] 0 (fun f hf => by rw [List.mem_singleton.mp hf]; exact Nat.le_refl _) p.2 (by have : p.2 ∈ L.map (·.2) := List.mem_map_of_mem m; rw [eL] at this; exact this)
        rw [List.length_take] at z
        omega
      refine ⟨_, rfl, _, rfl, c, rfl, ⟨_, SqL.of hc⟩, fun D' hD' => ?_⟩
      refine lc_list (K := K) (a := c) (xs := refL L) (fun j H' => Same H1 H' ∧ ∃ M : LL, H' D' = some (.lst (refL M)) ∧ Lsts H' M ∧ D' ∉ M.map (·.1) ∧ M.map (·.2) = ((L.map (·.2)).take j).map fun f => f ++ [x])
        ⟨same_new hD', [], upd_same, fun p m => absurd m (by simp), by simp, rfl⟩ (fun j H' _ z => z.1.seq (SqL.of hc)) ?_ ?_
      · rintro j y H2 hj ⟨s2, M, hM, tM, nM, eM⟩
        obtain ⟨p, pj, rfl⟩ := refL_get hj
        have pm : p ∈ L := List.mem_of_getElem? pj
        have pj2 : (L.map (·.2))[j]? = some p.2 := by rw [List.getElem?_map, pj]; rfl
        have jl := (List.getElem?_eq_some_iff.mp pj).1
        refine ⟨rfl, _, rfl, _, rfl, by show 1 ≤ sizeLine; decide, fun g hg => ⟨p.1, g, _, _, rfl, rfl, same_new hg _ _ (s2 _ _ (tL p pm)), upd_same, ?_, fun r hr' => ?_⟩⟩
        · have := short p pm
          show p.2.length + 1 ≤ sizeLine
          omega
        · have sg := (same_new (o := .lst [x]) hg).trans (same_new (o := .lst (p.2 ++ [x])) hr')
          have rD : r ≠ D' := fun z => by rw [z, same_new hg _ _ hM] at hr'; cases hr'
          have ml : M.length ≤ L.length := by rw [LL_len eM, List.length_map, List.length_take, List.length_map]; omega
          refine ⟨_, sg _ _ hM, by rw [refL_len]; omega, same_upd (s2.trans sg) hD', M ++ [(r, p.2 ++ [x])], ?_, ?_, ?_, ?_⟩
          · rw [upd_same, refL_snoc M r (p.2 ++ [x])]
          · refine ((tM.same sg).snoc upd_same).upd ?_
            rw [List.map_append]
            intro m
            rcases List.mem_append.mp m with m | m
            · exact nM m
            · exact rD (List.mem_singleton.mp m).symm
          · rw [List.map_append]
            intro m
            rcases List.mem_append.mp m with m | m
            · exact nM m
            · exact rD (List.mem_singleton.mp m).symm
          · rw [List.map_append, eM, List.take_succ_eq_append_getElem (by rw [List.length_map]; exact jl), List.map_append, (List.getElem?_eq_some_iff.mp pj2).2]
            rfl
      · rintro H2 ⟨s2, M, hM, tM, nM, eM⟩
        rw [refL_len, List.take_of_length_le (by rw [List.length_map]; exact Nat.le_refl _)] at eM
        have mlen : M.length = L.length := by rw [LL_len eM, List.length_map, List.length_map]
        refine ⟨c, D', refL L, refL M, rfl, rfl, s2 _ _ hc, hM, by rw [refL_len, refL_len]; omega, fun r hr' => ?_⟩
        have sr := same_new (o := .lst (refL L ++ refL M)) hr'
        refine ⟨r, L ++ M, some x, rfl, (s1.trans s2).trans sr, (s1.trans s2).free hr', ?_, ?_, ?_⟩
        · rw [upd_same]
          unfold refL
          rw [List.map_append]
        · intro p m
          rcases List.mem_append.mp m with m | m
          · exact sr _ _ (s2 _ _ (tL p m))
          · exact sr _ _ (tM p m)
        · rw [List.map_append, eM, step, eL]
    · rintro σ H1 ⟨c, L, u, rfl, s1, nc, hc, tL, eL⟩
      rw [List.take_length] at eL
      refine ⟨_, rfl, _, rfl, c, _, rfl, SqL.of hc, fun q hq => ?_⟩
      refine k _ q L.tail (s1.trans (same_new hq)) (s1.free hq) ?_ ?_ ?_
      · rw [upd_same, cut_tail]
        cases L with
        | nil => rfl
        | cons p r => rfl
      · exact fun p m => same_new hq _ _ (tL p (List.mem_of_mem_tail m))
      · rw [← eL]
        cases L with
        | nil => rfl
        | cons p r => rfl
end
end RF

/-! ## RFMove -/
/-! who_may_go, with_one_gone. -/
namespace RF
open PySem PySem.Spec PyProof.Rows L2
structure Kinds (mg : Str → Option Value) : Prop where
  one : ∃ t, mg "ONE_GOES" = some (.int 0 t)
  few : ∃ t, mg "SOME_GO" = some (.int 1 t)
  top : ∃ t, mg "TOGETHER" = some (.int 0 t)
/-! ### who_may_go -/
abbrev sWho : Stmt := top 24
def whoGo {α : Type} (rs : List α) (m : Nat) : List (List α) := if rs = [] then [] else if m = 0 then rs.map fun r => [r] else if m = 1 then (fewsUp rs).tail else [rs]
theorem whoGo_map {α β : Type} (f : α → β) (rs : List α) (m : Nat) : whoGo (rs.map f) m = (whoGo rs m).map (List.map f) := by
  unfold whoGo
  by_cases c : rs = []
  · rw [if_pos c, c]; rfl
  · rw [if_neg c, if_neg (fun z => c (List.map_eq_nil_iff.mp z))]
    by_cases c0 : m = 0
    · rw [if_pos c0, if_pos c0, List.map_map, List.map_map]; rfl
    · rw [if_neg c0, if_neg c0]
      by_cases c1 : m = 1
      · rw [if_pos c1, if_pos c1, fewsUp_map, List.map_tail]
      · rw [if_neg c1, if_neg c1]; rfl
theorem whoGo_in {α : Type} {rs : List α} {m : Nat} {f : List α} (h : f ∈ whoGo rs m) : f.length ≤ rs.length ∧ ∀ x ∈ f, x ∈ rs := by
  unfold whoGo at h
  split at h
  · cases h
  · next c =>
    have lp : 0 < rs.length := List.length_pos_iff.mpr c
    split at h
    · obtain ⟨r, mr, rfl⟩ := List.mem_map.mp h
      exact ⟨lp, fun x hx => by rw [List.mem_singleton.mp hx]; exact mr⟩
    · split at h
      · have h := List.mem_of_mem_tail h
        refine ⟨?_, fun x hx => ?_⟩
        · have := fews_in rs [[]] 0 (fun g hg => by rw [List.mem_singleton.mp hg]; exact Nat.le_refl _) f h
          omega
        · rcases fews_mem rs [[]] f h x hx with z | ⟨g, mg, z⟩
          · exact z
          · rw [List.mem_singleton.mp mg] at z; cases z
      · rw [List.mem_singleton.mp h]
        exact ⟨Nat.le_refl _, fun x hx => hx⟩
def spWho (_ : PySem.W.Frag) : Sp := fun vs H Q _ => ∃ (a : Addr) (rs : List V) (m : Nat), vs = [.ref a, .int (m : Int)] ∧ H a = some (.lst rs) ∧ rs.length ≤ 8 ∧
  ∀ (H' : Hp) (q : Addr) (L : LL), Same H H' → H q = none → H' q = some (.lst (refL L)) → Lsts H' L → L.map (·.2) = whoGo rs m → Q (.ref q) H'
abbrev nWho : List Str := ["eager", "moves", "robot"]
theorem scWho : FnScope nWho ["eager", "moves"] (defScope sWho) := ⟨rfl, rfl, rfl, by decide +kernel, rfl, by decide +kernel, by decide +kernel⟩
section
variable {P : Program} {w : World} {K : PySem.W.Frag} {mg : Str → Option Value} {base : Heap}
theorem ok_who {f fS : Addr} {fd fdS : FuncData} (F : Fun K "who_may_go" "who_may_go" sWho f fd) (O : Own mg) (C : Kinds mg) (N : Def P w K mg base 1 "some_of" ["robots"] (spSome K) fS fdS) : FnOk P w K mg base CX0 2 f fd ["eager", "moves"] (spWho K) := by
  obtain ⟨t1, g1⟩ := C.one
  obtain ⟨t2, g2⟩ := C.few
  refine F.ok scWho (fun vs H Q E h => ?_) (fun cdv A outer s H vs Q E hr h => ?_)
  · obtain ⟨a, rs, m, rfl, _⟩ := h
    rfl
  · refine ⟨_, pss_cons (ps_if (pt_cmpR op_eq (pe_callB call_len_seq (by rfl) O.len PySem.boot_len (pa_cons (pv 0) pa_nil)) pe_int (nomark _)) (pss_one (ps_ret (pe_lst pa_nil))) pss_nil)
      (pss_cons (ps_if (pt_cmpR op_eq (pv 1) (pe_glob (v := .int 0) rfl g1 ⟨_, rfl⟩) (nomark _)) (pss_one (ps_ret (pe_lc (own := [("robot", 2)]) (g := gName 2) (tt := tYes) rfl scWho.nd (pi_list (pv 0)) (blkOk_by (N := nWho) (sc := defScope sWho) (by decide +kernel))
          (fun _ _ _ _ _ => pg_name (i := 2) scWho.nd rfl (Or.inl rfl)) (fun _ _ _ _ _ => pts_nil)
          (fun _ _ _ _ _ => pe_lst (pa_cons (pv 2) pa_nil))))) pss_nil)
      (pss_one (ps_ret (pe_ifExp (pt_cmpR op_eq (pv 1) (pe_glob (v := .int 1) rfl g2 ⟨_, rfl⟩) (nomark _)) (pe_call N.ok hr rfl N.g N.kp N.b .nil pass0 (pa_cons (pv 0) pa_nil)) (pe_lst (pa_cons (pv 0) pa_nil)))))), ?_⟩
    obtain ⟨a, rs, m, rfl, ha, l8, k⟩ := h
    have big : (100000 : Nat) < sizeLine := by decide
    unfold whoGo at k
    refine ⟨_, rfl, a, _, rfl, .inl (SqL.of ha), rfl, _, rfl, ?_⟩
    rw [dec_int]
    by_cases c : rs = []
    · simp only [if_pos c] at k
      rw [show (((rs.length : Nat) : Int) == 0) = true by rw [c]; rfl]
      exact iteT ⟨Nat.zero_le _, fun q hq => k _ q [] (same_new hq) hq upd_same (fun p mm => absurd mm (by simp)) rfl⟩
    · simp only [if_neg c] at k
      have lp : 0 < rs.length := List.length_pos_iff.mpr c
      rw [show (((rs.length : Nat) : Int) == 0) = false from beq_eq_false_iff_ne.mpr (by omega)]
      refine iteF ⟨_, rfl, rfl, _, rfl, ?_⟩
      rw [dec_int]
      by_cases c0 : m = 0
      · simp only [if_pos c0] at k
        rw [show ((m : Int) == 0) = true from beq_iff_eq.mpr (by omega)]
        refine iteT ⟨_, rfl, a, rfl, ⟨_, SqL.of ha⟩, fun D hD => ?_⟩
        refine lc_list (K := K) (a := a) (xs := rs) (fun j H' => Same H H' ∧ ∃ M : LL, H' D = some (.lst (refL M)) ∧ Lsts H' M ∧ D ∉ M.map (·.1) ∧ M.map (·.2) = (rs.take j).map fun r => [r])
          ⟨same_new hD, [], upd_same, fun p mm => absurd mm (by simp), by simp, rfl⟩ (fun j H' _ z => z.1.seq (SqL.of ha)) ?_ ?_
        · rintro j y H2 hj ⟨s2, M, hM, tM, nM, eM⟩
          have jl := (List.getElem?_eq_some_iff.mp hj).1
          refine ⟨rfl, _, rfl, by show 1 ≤ sizeLine; decide, fun g hg => ?_⟩
          have sg := same_new (o := .lst [y]) hg
          have gD : g ≠ D := fun z => by rw [z, hM] at hg; cases hg
          have ml : M.length ≤ rs.length := by rw [LL_len eM, List.length_map, List.length_take]; omega
          have nM2 : D ∉ (M ++ [(g, [y])]).map (·.1) := fun mm => by
            rw [List.map_append] at mm
            rcases List.mem_append.mp mm with mm | mm
            · exact nM mm
            · exact gD (List.mem_singleton.mp mm).symm
          refine ⟨_, sg _ _ hM, by rw [refL_len]; omega, same_upd (s2.trans sg) hD, M ++ [(g, [y])], ?_, ((tM.same sg).snoc upd_same).upd nM2, nM2, ?_⟩
          · rw [upd_same, refL_snoc M g [y]]
          · rw [List.map_append, eM, List.take_succ_eq_append_getElem jl, List.map_append, (List.getElem?_eq_some_iff.mp hj).2]
            rfl
        · rintro H2 ⟨s2, M, hM, tM, nM, eM⟩
          rw [List.take_length] at eM
          exact k _ D M s2 hD hM tM eM
      · simp only [if_neg c0] at k
        rw [show ((m : Int) == 0) = false from beq_eq_false_iff_ne.mpr (by omega)]
        refine iteF ⟨_, rfl, rfl, _, rfl, ?_⟩
        rw [dec_int]
        by_cases c1 : m = 1
        · simp only [if_pos c1] at k
          rw [show ((m : Int) == 1) = true from beq_iff_eq.mpr (by omega)]
          exact iteT ⟨_, rfl, a, rs, rfl, SqL.of ha, l8, fun H' q L s1 n1 h1 h2 h3 => k H' q L s1 n1 h1 h2 h3⟩
        · simp only [if_neg c1] at k
          rw [show ((m : Int) == 1) = false from beq_eq_false_iff_ne.mpr (by omega)]
          refine iteF ⟨_, rfl, by show 1 ≤ sizeLine; decide, fun q hq => ?_⟩
          exact k _ q [(a, rs)] (same_new hq) hq upd_same (fun p mm => by rw [List.mem_singleton.mp mm]; exact same_new hq _ _ ha) rfl
end
/-! ### with_one_gone -/
abbrev sGone : Stmt := top 25
def thereOf (n p : Nat) (s : Int) : Nat := (((p : Int) + s) % (n : Int)).toNat
def oneGone (ns : List Int) (p : Nat) (s : Int) : List Int := (ns.set p (ns.getD p 0 - 1)).set (thereOf ns.length p s) ((ns.set p (ns.getD p 0 - 1)).getD (thereOf ns.length p s) 0 + 1)
theorem oneGone_len (ns : List Int) (p : Nat) (s : Int) : (oneGone ns p s).length = ns.length := by unfold oneGone; rw [List.length_set, List.length_set]
def spGone (K : PySem.W.Frag) : Sp := fun vs H Q _ => ∃ (a : Addr) (ns : List Int) (p : Nat) (s : Int), vs = [.ref a, .int (p : Int), .int s] ∧ SqT K H a (ns.map V.int) ∧ p < ns.length ∧
  ∀ (H' : Hp) (q : Addr), Same H H' → H q = none → H' q = some (.tup ((oneGone ns p s).map V.int)) → Q (.ref q) H'
abbrev nGone : List Str := ["ring", "place", "step", "there", "after"]
theorem scGone : FnScope nGone ["ring", "place", "step"] (defScope sGone) := ⟨rfl, rfl, rfl, by decide +kernel, rfl, by decide +kernel, by decide +kernel⟩
theorem ints_at {ns : List Int} {i : Nat} (h : i < ns.length) : atI (ns.map V.int) (i : Int) = some (V.int (ns.getD i 0)) := by
  refine atI_nat ?_
  rw [List.getElem?_map, List.getD_eq_getElem?_getD, List.getElem?_eq_getElem h]
  rfl
theorem ixN_nat {n i : Nat} (h : i < n) : ixN n (i : Int) = some i := by
  unfold ixN
  rw [if_pos (by omega), if_pos (by omega), Int.toNat_natCast]
theorem op_modP {X : Cx} : OpR X (binaryOp .Mod) (fun x y H Q => ∃ (p n : Nat) (s : Int), x = .int ((p : Int) + s) ∧ y = .int (n : Int) ∧ 0 < n ∧ Q (.int (thereOf n p s : Nat)) H) := by
  intro pins s σ H x y v u Q I rx ry h
  obtain ⟨p, n, z, rfl, rfl, n0, q⟩ := h
  have n1 : (0 : Int) < (n : Int) := by omega
  refine op_modN pins s σ H _ _ v u Q I rx ry ⟨_, _, rfl, rfl, Int.ne_of_gt n1, ?_⟩
  show Q (.int (((p : Int) + z).fmod (n : Int))) H
  rw [Int.fmod_eq_emod_of_nonneg _ (Int.le_of_lt n1)]
  unfold thereOf at q
  rw [Int.toNat_of_nonneg (Int.emod_nonneg _ (Int.ne_of_gt n1))] at q
  exact q
section
variable {P : Program} {w : World} {K : PySem.W.Frag} {mg : Str → Option Value} {base : Heap}
theorem ok_gone {f : Addr} {fd : FuncData} (F : Fun K "with_one_gone" "with_one_gone" sGone f fd) (O : Own mg) : FnOk P w K mg base CX0 1 f fd ["ring", "place", "step"] (spGone K) := by
  refine F.ok scGone (fun vs H Q E h => ?_) (fun cdv A outer s H vs Q E hr h => ?_)
  · obtain ⟨a, ns, p, s, rfl, _⟩ := h
    rfl
  · refine ⟨_, pss_cons (ps_set (i := 3) scGone.nd rfl (Or.inl rfl) (pe_op op_modP (pe_op op_add (pv 1) (pv 2)) (pe_callB call_len_seq (by rfl) O.len PySem.boot_len (pa_cons (pv 0) pa_nil))))
      (pss_cons (ps_set (i := 4) scGone.nd rfl (Or.inl rfl) (pe_callTy call_list_of (by rfl) O.list (by decide +kernel) (pa_cons (pv 0) pa_nil)))
      (pss_cons (ps_asg (pe_op op_sub (pe_ix ix_list (pv 4) (pv 1) (fun _ _ => rfl)) pe_int) (pg_sub (pv 4) (pv 1) set_list))
      (pss_cons (ps_asg (pe_op op_add (pe_ix ix_list (pv 4) (pv 3) (fun _ _ => rfl)) pe_int) (pg_sub (pv 4) (pv 3) set_list))
      (pss_one (ps_ret (pe_callTy call_tuple_of (by rfl) O.tuple (by decide +kernel) (pa_cons (pv 4) pa_nil))))))), ?_⟩
    obtain ⟨a, ns, p, s, rfl, ha, lp, k⟩ := h
    have len : (ns.map V.int).length = ns.length := List.length_map ..
    have n0 : (0 : Int) < (ns.length : Int) := by omega
    have tl : thereOf ns.length p s < ns.length := by
      unfold thereOf
      have h1 := Int.emod_nonneg ((p : Int) + s) (Int.ne_of_gt n0)
      have h2 := Int.emod_lt_of_pos ((p : Int) + s) n0
      omega
    refine ⟨_, rfl, _, rfl, _, _, rfl, rfl, _, rfl, a, _, rfl, .inr ha, p, ns.length, s, rfl, by rw [len], by omega, ?_⟩
    refine ⟨_, rfl, a, _, rfl, .inr ha, fun l hl => ?_⟩
    refine ⟨_, rfl, _, rfl, l, _, _, _, rfl, rfl, SqL.of upd_same, ints_at lp, _, _, rfl, rfl, ?_⟩
    refine ⟨_, rfl, _, rfl, l, _, _, _, rfl, rfl, upd_same, by rw [len]; exact ixN_nat lp, ?_⟩
    have e1 : (ns.map V.int).set p (V.int (ns.getD p 0 - 1)) = (ns.set p (ns.getD p 0 - 1)).map V.int := by rw [List.map_set]
    rw [e1, upd_upd]
    have l1 : thereOf ns.length p s < (ns.set p (ns.getD p 0 - 1)).length := by rw [List.length_set]; exact tl
    refine ⟨_, rfl, _, rfl, l, _, _, _, rfl, rfl, SqL.of upd_same, ints_at l1, _, _, rfl, rfl, ?_⟩
    refine ⟨_, rfl, _, rfl, l, _, _, _, rfl, rfl, upd_same, by rw [List.length_map]; exact ixN_nat l1, ?_⟩
    have e2 : ((ns.set p (ns.getD p 0 - 1)).map V.int).set (thereOf ns.length p s) (V.int ((ns.set p (ns.getD p 0 - 1)).getD (thereOf ns.length p s) 0 + 1)) = (oneGone ns p s).map V.int := by unfold oneGone; rw [List.map_set, List.map_set, List.map_set]
    rw [e2, upd_upd]
    refine ⟨_, rfl, l, _, rfl, .inl ⟨SqL.of upd_same, fun q hq => ?_⟩⟩
    have sl := same_new (o := .lst ((oneGone ns p s).map V.int)) hl
    exact k _ q (sl.trans (same_new hq)) (sl.free hq) upd_same
end
end RF

/-! ## RFRings -/
/-! rings_after. -/
namespace RF
open PySem PySem.Spec PyProof.Rows L2
/-! ### robots: a place, and the steps from it -/
abbrev LR := List (Addr × Nat × List Int)
def refR (L : LR) : List V := L.map fun p => V.ref p.1
def Robs (H : Hp) (L : LR) : Prop := ∀ p ∈ L, ∃ s, H p.1 = some (.tup [.int (p.2.1 : Nat), .ref s]) ∧ H s = some (.lst (p.2.2.map V.int))
theorem Robs.same {H H' : Hp} {L : LR} (h : Robs H L) (e : Same H H') : Robs H' L := fun p m => by
  obtain ⟨s, h1, h2⟩ := h p m
  exact ⟨s, e _ _ h1, e _ _ h2⟩
theorem refR_len (L : LR) : (refR L).length = L.length := List.length_map ..
theorem refR_get {L : LR} {i : Nat} {x : V} (h : (refR L)[i]? = some x) : ∃ p, L[i]? = some p ∧ x = V.ref p.1 := by
  unfold refR at h
  rw [List.getElem?_map] at h
  obtain ⟨p, e, rfl⟩ := Option.map_eq_some_iff.mp h
  exact ⟨p, e, rfl⟩
/-! ### rings_after -/
abbrev sRings : Stmt := top 26
def goneAll (rings : List (List Int)) (p : Nat) (ss : List Int) : List (List Int) := ss.flatMap fun s => rings.map fun b => oneGone b p s
def ringsAfter (ns : List Int) (L : List (Nat × List Int)) : List (List Int) := L.foldl (fun rings r => goneAll rings r.1 r.2) [ns]
theorem gone_len (rings : List (List Int)) (p : Nat) : ∀ ss : List Int, (goneAll rings p ss).length = ss.length * rings.length
  | [] => by simp [goneAll]
  | s :: ss => by
    have ih := gone_len rings p ss
    unfold goneAll at ih ⊢
    rw [List.flatMap_cons, List.length_append, List.length_map, ih, List.length_cons, Nat.add_mul, Nat.one_mul, Nat.add_comm]
theorem gone_each {rings : List (List Int)} {p n : Nat} {ss : List Int} (h : ∀ r ∈ rings, r.length = n) : ∀ r ∈ goneAll rings p ss, r.length = n := fun r m => by
  obtain ⟨s, _, m⟩ := List.mem_flatMap.mp m
  obtain ⟨b, mb, rfl⟩ := List.mem_map.mp m
  rw [oneGone_len]
  exact h b mb
theorem rings_each : ∀ (L : List (Nat × List Int)) (rings : List (List Int)) (n : Nat), (∀ r ∈ rings, r.length = n) → ∀ r ∈ L.foldl (fun rings r => goneAll rings r.1 r.2) rings, r.length = n
  | [], rings, n, h => h
  | x :: L, rings, n, h => rings_each L _ n (gone_each h)
theorem rings_few : ∀ (L : List (Nat × List Int)) (rings : List (List Int)), (∀ x ∈ L, x.2.length ≤ 2) → (L.foldl (fun rings r => goneAll rings r.1 r.2) rings).length ≤ 2 ^ L.length * rings.length
  | [], rings, _ => by simp
  | x :: L, rings, h => by
    have ih := rings_few L (goneAll rings x.1 x.2) fun y m => h y (List.mem_cons_of_mem _ m)
    rw [List.foldl_cons]
    refine Nat.le_trans ih ?_
    rw [gone_len, List.length_cons, Nat.pow_succ, Nat.mul_assoc]
    exact Nat.mul_le_mul_left _ (Nat.mul_le_mul_right _ (h x List.mem_cons_self))
def spRings (K : PySem.W.Frag) : Sp := fun vs H Q _ => ∃ (a g : Addr) (ns : List Int) (L : LR), vs = [.ref a, .ref g] ∧ H a = some (.tup (ns.map V.int)) ∧ SqL K H g (refR L) ∧ Robs H L ∧ L.length ≤ 8 ∧ (∀ r ∈ L, r.2.1 < ns.length ∧ r.2.2.length ≤ 2) ∧
  ∀ (H' : Hp) (q : Addr) (M : LA), Same H H' → H q = none → H' q = some (.lst (refs M)) → Tups H' M → M.map (·.2) = ringsAfter ns (L.map (·.2)) → Q (.ref q) H'
abbrev nRings : List Str := ["ring", "going", "rings", "place", "steps", "further", "step", "before"]
theorem scRings : FnScope nRings ["ring", "going"] (defScope sRings) := ⟨rfl, rfl, rfl, by decide +kernel, rfl, by decide +kernel, by decide +kernel⟩
theorem snds_at {α : Type} {L : List (Addr × α)} {i : Nat} {p : Addr × α} (h : L[i]? = some p) : (L.map (·.2))[i]? = some p.2 := by rw [List.getElem?_map, h]; rfl
section
variable {P : Program} {w : World} {K : PySem.W.Frag} {mg : Str → Option Value} {base : Heap}
theorem ok_rings {f fG : Addr} {fd fdG : FuncData} (F : Fun K "rings_after" "rings_after" sRings f fd) (N : Def P w K mg base 1 "with_one_gone" ["ring", "place", "step"] (spGone K) fG fdG) : FnOk P w K mg base CX0 2 f fd ["ring", "going"] (spRings K) := by
  refine F.ok scRings (fun vs H Q E h => ?_) (fun cdv A outer s H vs Q E hr h => ?_)
  · obtain ⟨a, g, ns, L, rfl, _⟩ := h
    rfl
  · refine ⟨_, pss_cons (ps_set (i := 2) scRings.nd rfl (Or.inl rfl) (pe_lst (pa_cons (pv 0) pa_nil)))
      (pss_cons (ps_for PassesOwn.never rfl (pi_list (pv 1)) (pg_tup rfl (pgs_cons (pg_name (i := 3) scRings.nd rfl (Or.inr rfl)) (pgs_cons (pg_name (i := 4) scRings.nd rfl (Or.inl rfl)) pgs_nil)))
        (pss_cons (ps_set (i := 5) scRings.nd rfl (Or.inl rfl) (pe_lst pa_nil))
        (pss_cons (ps_for PassesOwn.never rfl (pi_list (pv 4)) (pg_name (i := 6) scRings.nd rfl (Or.inr rfl))
          (pss_one (ps_expr (pe_bm PySem.F.plainAttrs_list PySem.F.slot_list_extend PySem.F.type_list_extend mt_extend (pv 5) (pa_cons
            (pe_lc (own := [("before", 7)]) (g := gName 7) (tt := tYes) rfl scRings.nd (pi_list (pv 2)) (blkOk_by (N := nRings) (sc := defScope sRings) (by decide +kernel))
              (fun _ _ _ _ _ => pg_name (i := 7) scRings.nd rfl (Or.inl rfl)) (fun _ _ _ _ _ => pts_nil)
              (fun _ _ _ _ _ => pe_call N.ok hr rfl N.g N.kp N.b .nil pass0 (pa_cons (pv 7) (pa_cons (pv 3) (pa_cons (pv 6) pa_nil))))) pa_nil)))))
        (pss_one (ps_set (i := 2) scRings.nd rfl (Or.inl rfl) (pv 5))))))
      (pss_one (ps_ret (pv 2)))), ?_⟩
    obtain ⟨a, g, ns, L, rfl, ha, hg, rL, l8, each, k⟩ := h
    have big : (100000 : Nat) < sizeLine := by decide
    refine ⟨_, rfl, by show 1 ≤ sizeLine; decide, fun D hD => ?_⟩
    have s0 := same_new (o := .lst [V.ref a]) hD
    refine ⟨_, rfl, g, rfl, ⟨_, s0.seq hg⟩, for_list (K := K) (a := g) (xs := refR L) (fun i σ H' => ∃ (c : Addr) (M : LA) (u3 u4 u5 u6 : Option V), σ = [some (.ref a), some (.ref g), some (.ref c), u3, u4, u5, u6, none] ∧ Same H H' ∧ H c = none ∧ H' c = some (.lst (refs M)) ∧ Tups H' M ∧ M.map (·.2) = ringsAfter ns ((L.map (·.2)).take i))
      ⟨D, [(a, ns)], none, none, none, none, rfl, s0, hD, upd_same, fun p m => ?_, rfl⟩ (fun i σ H' _ ⟨_, _, _, _, _, _, _, s1, _⟩ => s1.seq hg) ?_ ?_⟩
    · rw [List.mem_singleton.mp m]; exact s0 _ _ ha
    · rintro i x σ H1 hi ⟨c, M, u3, u4, u5, u6, rfl, s1, nc, hc, tM, eM⟩
      obtain ⟨r, ri, rfl⟩ := refR_get hi
      have rm := List.mem_of_getElem? ri
      obtain ⟨r1, r2⟩ := each r rm
      obtain ⟨st, ht, hs⟩ := rL.same s1 r rm
      have il := (List.getElem?_eq_some_iff.mp ri).1
      have step : ringsAfter ns ((L.map (·.2)).take (i + 1)) = goneAll (M.map (·.2)) r.2.1 r.2.2 := by
        rw [eM]
        exact fold_take _ _ (snds_at ri)
      have mlen : M.length ≤ 2 ^ 8 := by
        rw [snd_len eM]
        have z := rings_few ((L.map (·.2)).take i) [ns] (fun y m => by
          obtain ⟨q, mq, rfl⟩ := List.mem_map.mp (List.mem_of_mem_take m)
          exact (each q mq).2)
        have z2 : 2 ^ ((L.map (·.2)).take i).length ≤ 2 ^ 8 := Nat.pow_le_pow_right (by decide) (by rw [List.length_take, List.length_map]; omega)
        rw [List.length_singleton, Nat.mul_one] at z
        exact Nat.le_trans z z2
      have mring : ∀ p ∈ M, p.2.length = ns.length := fun p m => by
        have : p.2 ∈ M.map (·.2) := List.mem_map_of_mem m
        rw [eM] at this
        exact rings_each _ [ns] ns.length (fun q mq => by rw [List.mem_singleton.mp mq]) _ this
      refine ⟨r.1, _, rfl, SqT.of ht, rfl, _, _, rfl, _, _, rfl, rfl, ?_⟩
      refine ⟨Nat.zero_le _, fun D1 hD1 => ?_⟩
      have sD := same_new (o := .lst []) hD1
      refine ⟨_, rfl, st, rfl, ⟨_, SqL.of (sD _ _ hs)⟩, for_list (K := K) (a := st) (xs := r.2.2.map V.int) (fun j σ H' => ∃ (N : LA) (u6 : Option V), σ = [some (.ref a), some (.ref g), some (.ref c), some (.int (r.2.1 : Nat)), some (.ref st), some (.ref D1), u6, none] ∧ Same H1 H' ∧ H' D1 = some (.lst (refs N)) ∧ Tups H' N ∧ N.map (·.2) = goneAll (M.map (·.2)) r.2.1 (r.2.2.take j))
        ⟨[], u6, rfl, sD, upd_same, fun p m => absurd m (by simp), rfl⟩ (fun j σ H' _ ⟨_, _, _, s2, _⟩ => SqL.of (s2 _ _ hs)) ?_ ?_⟩
      · rintro j y σ H2 hj ⟨N1, u6, rfl, s2, hN, tN, eN⟩
        rw [List.getElem?_map] at hj
        obtain ⟨z, hz, rfl⟩ := Option.map_eq_some_iff.mp hj
        have jl := (List.getElem?_eq_some_iff.mp hz).1
        refine ⟨_, rfl, .inl ⟨rfl, _, SqL.of hN⟩, _, rfl, c, rfl, ⟨_, SqL.of (s2 _ _ hc)⟩, fun D2 hD2 => ?_⟩
        refine lc_list (K := K) (a := c) (xs := refs M) (fun k H' => Same H2 H' ∧ ∃ N2 : LA, H' D2 = some (.lst (refs N2)) ∧ Tups H' N2 ∧ N2.map (·.2) = ((M.map (·.2)).take k).map fun b => oneGone b r.2.1 z)
          ⟨same_new hD2, [], upd_same, fun p m => absurd m (by simp), rfl⟩ (fun k H' _ zz => zz.1.seq (SqL.of (s2 _ _ hc))) ?_ ?_
        · rintro kk y2 H3 hk ⟨s3, N2, hN2, tN2, eN2⟩
          obtain ⟨p, pk, rfl⟩ := refs_get hk
          have pm := List.mem_of_getElem? pk
          have kl := (List.getElem?_eq_some_iff.mp pk).1
          refine ⟨rfl, _, rfl, _, rfl, _, rfl, p.1, p.2, r.2.1, z, rfl, SqT.of (s3 _ _ (s2 _ _ (tM p pm))), by rw [mring p pm]; exact r1, fun H4 q s4 n4 e4 => ?_⟩
          have nl : N2.length ≤ M.length := by rw [snd_len eN2, List.length_map, List.length_take, List.length_map]; omega
          refine ⟨_, s4 _ _ hN2, by rw [refs_len]; omega, same_upd (s3.trans s4) hD2, N2 ++ [(q, oneGone p.2 r.2.1 z)], ?_, ?_, ?_⟩
          · rw [upd_same, refs_snoc N2 q (oneGone p.2 r.2.1 z)]
          · exact ((tN2.same s4).snoc e4).upd (s4 _ _ hN2)
          · rw [List.map_append, eN2, List.take_succ_eq_append_getElem (by rw [List.length_map]; exact kl), List.map_append, (List.getElem?_eq_some_iff.mp (snds_at pk)).2]
            rfl
        · rintro H3 ⟨s3, N2, hN2, tN2, eN2⟩
          rw [refs_len, List.take_of_length_le (by rw [List.length_map]; exact Nat.le_refl _)] at eN2
          have l1 : N1.length ≤ 2 * M.length := by
            rw [snd_len eN, gone_len, List.length_map, List.length_take]
            exact Nat.mul_le_mul_right _ (by omega)
          have l2 : N2.length = M.length := by rw [snd_len eN2, List.length_map, List.length_map]
          refine ⟨D1, D2, _, _, rfl, rfl, s3 _ _ hN, hN2, by rw [refs_len, refs_len]; omega, ?_⟩
          refine ⟨N1 ++ N2, some (.int z), rfl, ?_, ?_, ?_, ?_⟩
          · exact same_upd (s2.trans s3) hD1
          · rw [upd_same]
            unfold refs
            rw [List.map_append]
          · refine Tups.upd (fun p m => ?_) (s3 _ _ hN)
            rcases List.mem_append.mp m with m | m
            · exact s3 _ _ (tN p m)
            · exact tN2 p m
          · rw [List.map_append, eN, eN2, List.take_succ_eq_append_getElem jl, (List.getElem?_eq_some_iff.mp hz).2]
            unfold goneAll
            rw [List.flatMap_append]
            simp
      · rintro σ H2 ⟨N1, u6, rfl, s2, hN, tN, eN⟩
        rw [List.length_map, List.take_length] at eN
        refine ⟨_, rfl, D1, N1, _, _, _, _, rfl, s1.trans s2, s1.free hD1, hN, tN, ?_⟩
        rw [eN, step]
    · rintro σ H1 ⟨c, M, u3, u4, u5, u6, rfl, s1, nc, hc, tM, eM⟩
      rw [refR_len, List.take_of_length_le (by rw [List.length_map]; exact Nat.le_refl _)] at eM
      exact ⟨_, rfl, k H1 c M s1 nc hc tM eM⟩
end
end RF

/-! ## RFEager -/
/-! eager_robots. -/
namespace RF
open PySem PySem.Spec PyProof.Rows L2
theorem walk_enumT {K : PySem.W.Frag} {a : Addr} {ys : List V} : Walk (IteT K a ys) ys.length (fun H => SqT K H a ys) (YPair (fun i => some (.int (i : Nat))) (fun i => ys[i]?)) where
  goes := fun i H hi hG => ⟨hG, hi⟩
  stops := fun H hG => ⟨hG, rfl⟩
  yields := fun i H x H' hi hG ⟨T, y, h1, h2, h3, h4⟩ => ⟨T, _, y, h1, h2, h3, rfl, h4⟩
theorem walk_zipM {K : PySem.W.Frag} {a b : Addr} {xs ys : List V} (hl : xs.length = ys.length) : Walk (ItzM K a b xs ys) xs.length (fun H => SqL K H a xs ∧ SqT K H b ys) (YPair (fun i => xs[i]?) (fun i => ys[i]?)) where
  goes := fun i H hi hG => ⟨hG.1, hG.2, hi, hl ▸ hi⟩
  stops := fun H hG => ⟨hG.1, hG.2, rfl, hl⟩
  yields := fun i H x H' hi hG ⟨T, y, z, h1, h2, h3, h4, h5⟩ => ⟨T, y, z, h1, h2, h3, h4, h5⟩
/-! ### eager_robots -/
abbrev sEager : Stmt := top 22
/-- the eager robots of one place -/
def eagerAt (ns looks : List Int) (td : Nat → Nat) (p : Nat) : List (Nat × List Int) := if 0 < ns.getD p 0 ∧ stepsOf looks p (td p) ≠ [] then List.replicate (ns.getD p 0).toNat (p, stepsOf looks p (td p)) else []
def eagerUp (ns looks : List Int) (td : Nat → Nat) (i : Nat) : List (Nat × List Int) := (List.range i).flatMap (eagerAt ns looks td)
def eagerOf (e : Nat) (ns : List Int) (td : Nat → Nat) : List (Nat × List Int) := eagerUp ns (seenBy e ns) td ns.length
theorem eager_up (ns looks : List Int) (td : Nat → Nat) (i : Nat) : eagerUp ns looks td (i + 1) = eagerUp ns looks td i ++ eagerAt ns looks td i := by
  unfold eagerUp
  rw [List.range_succ, List.flatMap_append]
  simp
theorem eager_at_len (ns looks : List Int) (td : Nat → Nat) (p : Nat) : (eagerAt ns looks td p).length ≤ (ns.getD p 0).toNat := by
  unfold eagerAt
  split
  · rw [List.length_replicate]; exact Nat.le_refl _
  · exact Nat.zero_le _
theorem eager_len (ns looks : List Int) (td : Nat → Nat) (nn : ∀ x ∈ ns, 0 ≤ x) : ∀ i, i ≤ ns.length → ((eagerUp ns looks td i).length : Int) ≤ (ns.take i).sum
  | 0, _ => by simp [eagerUp]
  | i + 1, h => by
    have ih := eager_len ns looks td nn i (by omega)
    have z := eager_at_len ns looks td i
    have hi : i < ns.length := h
    have g : ns.getD i 0 = ns[i] := by rw [List.getD_eq_getElem?_getD, List.getElem?_eq_getElem hi]; rfl
    have p0 : 0 ≤ ns[i] := nn _ (List.getElem_mem hi)
    rw [eager_up, List.length_append, List.take_succ_eq_append_getElem hi, List.sum_append, List.sum_singleton]
    rw [g] at z
    omega
theorem steps_le (looks : List Int) (p : Int) (d : Nat) : (stepsOf looks p d).length ≤ 2 := by
  unfold stepsOf
  split
  · exact Nat.zero_le _
  · split
    · exact Nat.le_refl _
    · split <;> exact Nat.le_succ _
theorem eager_in {ns looks : List Int} {td : Nat → Nat} {i : Nat} {r : Nat × List Int} (h : r ∈ eagerUp ns looks td i) : r.1 < i ∧ r.2.length ≤ 2 := by
  unfold eagerUp at h
  obtain ⟨p, mp, h⟩ := List.mem_flatMap.mp h
  unfold eagerAt at h
  split at h
  · rw [List.eq_of_mem_replicate h]
    exact ⟨List.mem_range.mp mp, steps_le _ _ _⟩
  · cases h
def spEager (K : PySem.W.Frag) : Sp := fun vs H Q _ => ∃ (a t : Addr) (ns : List Int) (e : Nat) (kvs : List (List Key × V)) (td : Nat → Nat), vs = [.ref a, .int (e : Int), .ref t] ∧ SqT K H a (ns.map V.int) ∧ 0 < ns.length ∧ ns.length ≤ 100 ∧ e ≤ 2 ∧ (∀ x ∈ ns, 0 ≤ x) ∧ ns.sum ≤ 8 ∧
  H t = some (.dT kvs) ∧ (∀ p : Nat, p < ns.length → 0 < ns.getD p 0 → valV kvs (kI (lesserRow (seenBy e ns) p)) = some (.int (td p : Nat))) ∧
  ∀ (H' : Hp) (q : Addr) (L : LR), Same H H' → H q = none → H' q = some (.lst (refR L)) → Robs H' L → L.map (·.2) = eagerOf e ns td → Q (.ref q) H'
abbrev nEager : List Str := ["ring", "eyes", "told", "looks", "eager", "place", "robots", "steps"]
theorem scEager : FnScope nEager ["ring", "eyes", "told"] (defScope sEager) := ⟨rfl, rfl, rfl, by decide +kernel, rfl, by decide +kernel, by decide +kernel⟩
theorem flat_rep {α : Type} (n : Nat) (x : α) : (List.replicate n [x]).flatten = List.replicate n x := by
  induction n with
  | zero => rfl
  | succ n ih => rw [List.replicate_succ, List.flatten_cons, ih, List.replicate_succ]; rfl
theorem sum_le_take {ns : List Int} (nn : ∀ x ∈ ns, 0 ≤ x) (i : Nat) : (ns.take i).sum ≤ ns.sum := by
  have h : ns.sum = (ns.take i).sum + (ns.drop i).sum := by rw [← List.sum_append, List.take_append_drop]
  have z : ∀ l : List Int, (∀ x ∈ l, 0 ≤ x) → 0 ≤ l.sum := fun l => by
    induction l with
    | nil => intro _; exact Int.le_refl _
    | cons x r ih =>
      intro hl
      rw [List.sum_cons]
      have := hl x List.mem_cons_self
      have := ih fun y m => hl y (List.mem_cons_of_mem _ m)
      omega
  have := z (ns.drop i) fun x m => nn x (List.mem_of_mem_drop m)
  omega
section
variable {P : Program} {w : World} {K : PySem.W.Frag} {mg : Str → Option Value} {base : Heap}
theorem ok_eager {f fS fT fL : Addr} {fd fdS fdT fdL : FuncData} (F : Fun K "eager_robots" "eager_robots" sEager f fd) (O : Own mg) (S : Def P w K mg base 1 "seen" ["ring", "eyes"] (spSeen K) fS fdS) (T : Def P w K mg base 2 "steps_of" ["looks", "place", "done"] (spStep K) fT fdT)
    (L' : Def P w K mg base 2 "lesser_row" ["ring", "place"] (spLes K) fL fdL) : FnOk P w K mg base CX0 3 f fd ["ring", "eyes", "told"] (spEager K) := by
  refine F.ok scEager (fun vs H Q E h => ?_) (fun cdv A outer s H vs Q E hr h => ?_)
  · obtain ⟨a, t, ns, e, kvs, td, rfl, _⟩ := h
    rfl
  · refine ⟨_, pss_cons (ps_set (i := 3) scEager.nd rfl (Or.inl rfl) (pe_call S.ok (hr.mono (by decide)) rfl S.g S.kp S.b .nil pass0 (pa_cons (pv 0) (pa_cons (pv 1) pa_nil))))
      (pss_cons (ps_set (i := 4) scEager.nd rfl (Or.inl rfl) (pe_lst pa_nil))
      (pss_cons (ps_for PassesOwn.never rfl (pi_enumT (by rfl) O.enumerate (pa_cons (pv 0) pa_nil)) (pg_tup rfl (pgs_cons (pg_name (i := 5) scEager.nd rfl (Or.inl rfl)) (pgs_cons (pg_name (i := 6) scEager.nd rfl (Or.inl rfl)) pgs_nil)))
        (pss_cons (ps_set (i := 7) scEager.nd rfl (Or.inl rfl) (pe_ifExp (pt_cmpR op_gt (pv 6) pe_int (nomark _))
            (pe_call T.ok hr rfl T.g T.kp T.b .nil pass0 (pa_cons (pv 3) (pa_cons (pv 5) (pa_cons (pe_dget (hu_of hr) (pv 2) (pe_call L'.ok hr rfl L'.g L'.kp L'.b .nil pass0 (pa_cons (pv 3) (pa_cons (pv 5) pa_nil))) (fun _ _ => rfl)) pa_nil))))
            (pe_lst pa_nil)))
        (pss_one (ps_if (pt_cmpR op_gt (pe_callB call_len_seq (by rfl) O.len PySem.boot_len (pa_cons (pv 7) pa_nil)) pe_int (nomark _))
          (pss_one (ps_expr (pe_bm PySem.F.plainAttrs_list PySem.F.slot_list_extend PySem.F.type_list_extend mt_extend (pv 4) (pa_cons (pe_op op_rep (pe_lst (pa_cons (pe_tup (pa_cons (pv 5) (pa_cons (pv 7) pa_nil))) pa_nil)) (pv 6)) pa_nil)))) pss_nil))))
      (pss_one (ps_ret (pv 4))))), ?_⟩
    obtain ⟨a, t, ns, e, kvs, td, rfl, ha, l1, l2, he, nn, s8, ht, hv, k⟩ := h
    have big : (100000 : Nat) < sizeLine := by decide
    have len : (ns.map V.int).length = ns.length := List.length_map ..
    refine ⟨_, rfl, _, rfl, a, ns, e, rfl, ha, l2, he, fun H1 lk s1 n1 e1 => ?_⟩
    refine ⟨Nat.zero_le _, fun D hD => ?_⟩
    have sD := same_new (o := .lst []) hD
    refine ⟨_, rfl, a, ns.map V.int, rfl, same_tup (s1.trans sD) ha, ?_⟩
    refine for_it (walk_enumT (K := K) (a := a) (ys := ns.map V.int)) (fun i σ H' => ∃ (L : LR) (u5 u6 u7 : Option V), σ = [some (.ref a), some (.int (e : Int)), some (.ref t), some (.ref lk), some (.ref D), u5, u6, u7] ∧ Same H1 H' ∧ H' D = some (.lst (refR L)) ∧
        (∀ p ∈ L, ∃ s, s ≠ D ∧ H' p.1 = some (.tup [.int (p.2.1 : Nat), .ref s]) ∧ H' s = some (.lst (p.2.2.map V.int))) ∧ L.map (·.2) = eagerUp ns (seenBy e ns) td i)
      ⟨[], none, none, none, rfl, sD, upd_same, fun p m => absurd m (by simp), rfl⟩ (fun i σ H' _ ⟨_, _, _, _, _, s2, _⟩ => same_tup (s1.trans s2) ha) ?_ ?_
    · rintro i x σ H2 H3 hi ⟨L, u5, u6, u7, rfl, s2, hL, rL, eL⟩ ⟨T0, x1, x2, rfl, hT, rfl, g1, g2⟩
      cases Option.some.inj g1
      have g2 : (ns.map V.int)[i]? = some x2 := g2
      rw [List.getElem?_map] at g2
      obtain ⟨y, hy, rfl⟩ := Option.map_eq_some_iff.mp g2
      have hi2 : i < ns.length := (List.getElem?_eq_some_iff.mp hy).1
      have yg : ns.getD i 0 = y := by rw [List.getD_eq_getElem?_getD, hy]; rfl
      have y0 : 0 ≤ y := nn y (List.mem_of_getElem? hy)
      have up := eager_up ns (seenBy e ns) td i
      have llen : (L.length : Int) ≤ 8 := by
        have z1 := eager_len ns (seenBy e ns) td nn i (by omega)
        have z2 := sum_le_take nn i
        rw [← eL, List.length_map] at z1
        omega
      have y8 : y ≤ 8 := by
        have z1 := sum_le_take nn (i + 1)
        rw [List.take_succ_eq_append_getElem hi2, List.sum_append, List.sum_singleton, (List.getElem?_eq_some_iff.mp hy).2] at z1
        have z2 : 0 ≤ (ns.take i).sum := by
          have := eager_len ns (seenBy e ns) td nn i (by omega)
          omega
        omega
      have s3 : Same H1 (upd H2 T0 (.tup [V.int (i : Nat), V.int y])) := s2.trans (same_new hT)
      have same3 := same_new (o := .tup [V.int (i : Nat), V.int y]) hT
      have hL3 := same3 _ _ hL
      refine ⟨T0, _, rfl, SqT.of upd_same, rfl, _, _, rfl, _, _, rfl, rfl, ?_⟩
      refine ⟨_, rfl, _, _, rfl, rfl, _, rfl, ?_⟩
      by_cases c : 0 < y
      · refine ite2 (fun _ => ?_) (fun z => absurd (decide_eq_true c) z)
        refine ⟨_, rfl, _, rfl, _, rfl, _, rfl, _, rfl, lk, seenBy e ns, (i : Nat), rfl, SqT.of (s3 _ _ e1), by rw [seen_len]; exact l1, by rw [seen_len]; exact l2, fun H4 q4 s4 n4 e4 => ?_⟩
        have ht4 := s4 _ _ (s3 _ _ (s1 _ _ ht))
        refine ⟨t, .int (td i : Nat), rfl, ?_, ?_⟩
        · have z := DGet.t (k := kI (lesserRow (seenBy e ns) i)) ht4 (by rw [kI_kV]; exact e4)
          rw [hv i hi2 (by rw [yg]; exact c)] at z
          exact z
        · refine ⟨lk, seenBy e ns, (i : Nat), td i, rfl, SqT.of (s4 _ _ (s3 _ _ e1)), by rw [seen_len]; exact l1, by rw [seen_len]; exact l2, fun H5 q5 s5 n5 e5 => ?_⟩
          have s45 := s4.trans s5
          have hL5 := s45 _ _ hL3
          have qD : q5 ≠ D := fun z => by rw [z, s4 _ _ hL3] at n5; cases n5
          have rL5 : ∀ p ∈ L, ∃ s, s ≠ D ∧ H5 p.1 = some (.tup [.int (p.2.1 : Nat), .ref s]) ∧ H5 s = some (.lst (p.2.2.map V.int)) := fun p m => by
            obtain ⟨s, h0, h1, h2⟩ := rL p m
            exact ⟨s, h0, s45 _ _ (same3 _ _ h1), s45 _ _ (same3 _ _ h2)⟩
          refine ⟨_, rfl, q5, _, rfl, .inl (SqL.of e5), _, _, rfl, rfl, _, rfl, ?_⟩
          rw [List.length_map]
          by_cases cs : stepsOf (seenBy e ns) i (td i) = []
          · have ea : eagerAt ns (seenBy e ns) td i = [] := by unfold eagerAt; rw [if_neg (fun z => z.2 cs)]
            refine ite2 (fun z => ?_) (fun _ => ?_)
            · rw [cs] at z; exact absurd (of_decide_eq_true z) (by decide)
            · refine ⟨L, _, _, _, rfl, s3.trans s45, hL5, rL5, ?_⟩
              rw [up, ea, List.append_nil]
              exact eL
          · have ea : eagerAt ns (seenBy e ns) td i = List.replicate y.toNat (i, stepsOf (seenBy e ns) i (td i)) := by unfold eagerAt; rw [if_pos ⟨by rw [yg]; exact c, cs⟩, yg]
            have lp : 0 < (stepsOf (seenBy e ns) i (td i)).length := List.length_pos_iff.mpr cs
            refine ite2 (fun _ => ?_) (fun z => absurd (decide_eq_true (by omega)) z)
            refine ⟨_, rfl, .inl ⟨rfl, _, SqL.of hL5⟩, _, rfl, _, rfl, by show 2 ≤ sizeLine; decide, fun t6 n6 => ?_⟩
            have s6 := same_new (o := .tup [V.int (i : Nat), V.ref q5]) n6
            refine ⟨by show 1 ≤ sizeLine; decide, fun t7 n7 => ?_⟩
            have s7 := same_new (o := .lst [V.ref t6]) n7
            refine ⟨_, rfl, t7, _, _, rfl, rfl, upd_same, by omega, by omega, ?_, fun t8 n8 => ?_⟩
            · show 1 * y.toNat ≤ sizeLine; omega
            have s8' := same_new (o := .lst (List.replicate y.toNat [V.ref t6]).flatten) n8
            have sF := (s6.trans s7).trans s8'
            have t8D : t8 ≠ D := fun z => by rw [z, (s6.trans s7) _ _ hL5] at n8; cases n8
            refine ⟨D, t8, _, _, rfl, rfl, sF _ _ hL5, upd_same, ?_, ?_⟩
            · rw [flat_rep, List.length_replicate, refR_len]
              omega
            · refine ⟨L ++ List.replicate y.toNat (t6, i, stepsOf (seenBy e ns) i (td i)), _, _, _, rfl, same_upd (s3.trans (s45.trans sF)) hD, ?_, fun p m => ?_, ?_⟩
              · rw [upd_same, flat_rep]
                unfold refR
                rw [List.map_append, List.map_replicate]
              · have t6D : t6 ≠ D := fun z => by rw [z, hL5] at n6; cases n6
                rcases List.mem_append.mp m with m | m
                · obtain ⟨s, h0, h1, h2⟩ := rL5 p m
                  refine ⟨s, h0, ?_, ?_⟩
                  · rw [upd_ne (ne_kinds (sF _ _ h1) (sF _ _ hL5) (fun z => by cases z))]; exact sF _ _ h1
                  · rw [upd_ne h0]; exact sF _ _ h2
                · rw [List.eq_of_mem_replicate m]
                  refine ⟨q5, qD, ?_, ?_⟩
                  · rw [upd_ne t6D]; exact (s7.trans s8') _ _ upd_same
                  · rw [upd_ne qD]; exact sF _ _ e5
              · rw [List.map_append, List.map_replicate, up, ea, eL]
      · refine ite2 (fun z => absurd (of_decide_eq_true z) c) (fun _ => ?_)
        have ea : eagerAt ns (seenBy e ns) td i = [] := by unfold eagerAt; rw [if_neg (fun z => c (by have := z.1; rw [yg] at this; exact this))]
        refine ⟨Nat.zero_le _, fun q5 n5 => ?_⟩
        have s5 := same_new (o := .lst []) n5
        refine ⟨_, rfl, q5, _, rfl, .inl (SqL.of upd_same), _, _, rfl, rfl, _, rfl, ?_⟩
        refine ite2 (fun z => absurd (of_decide_eq_true z) (by decide)) (fun _ => ?_)
        refine ⟨L, _, _, _, rfl, s3.trans s5, s5 _ _ hL3, fun p m => ?_, ?_⟩
        · obtain ⟨s, h0, h1, h2⟩ := rL p m
          exact ⟨s, h0, s5 _ _ (same3 _ _ h1), s5 _ _ (same3 _ _ h2)⟩
        · rw [up, ea, List.append_nil]
          exact eL
    · rintro σ H2 ⟨L, u5, u6, u7, rfl, s2, hL, rL, eL⟩
      rw [len] at eL
      refine ⟨_, rfl, k H2 D L (s1.trans s2) (s1.free hD) hL (fun p m => ?_) eL⟩
      obtain ⟨s, _, h1, h2⟩ := rL p m
      exact ⟨s, h1, h2⟩
end
end RF

/-! ## RFAfter -/
/-! names_after. -/
namespace RF
open PySem PySem.Spec PyProof.Rows L2
/-- all but D stands -/
def But (D : Addr) (H H' : Hp) : Prop := ∀ x o, H x = some o → x ≠ D → H' x = some o
theorem But.refl (D : Addr) (H : Hp) : But D H H := fun _ _ e _ => e
theorem But.same {D : Addr} {H H1 H2 : Hp} (h : But D H H1) (s : Same H1 H2) : But D H H2 := fun x o e n => s _ _ (h x o e n)
theorem But.upd {D : Addr} {H H1 : Hp} {o : HO} (h : But D H H1) : But D H (upd H1 D o) := fun x u e n => by
  rw [upd_ne n]
  exact h x u e n
theorem But.same_old {D : Addr} {H0 H H1 : Hp} (h : But D H H1) (s : Same H0 H) (n : H0 D = none) : Same H0 H1 := fun x o e => h x o (s _ _ e) (fun z => by rw [z, n] at e; cases e)
theorem Tups.but {D : Addr} {H H1 : Hp} {L : LA} {kvs : List (List Key × V)} (h : Tups H L) (hD : H D = some (.dT kvs)) (b : But D H H1) : Tups H1 L := fun p m => b _ _ (h p m) (ne_kinds (h p m) hD (fun z => by cases z))
theorem Lsts.but {D : Addr} {H H1 : Hp} {L : LL} {kvs : List (List Key × V)} (h : Lsts H L) (hD : H D = some (.dT kvs)) (b : But D H H1) : Lsts H1 L := fun p m => b _ _ (h p m) (ne_kinds (h p m) hD (fun z => by cases z))
theorem Robs.but {D : Addr} {H H1 : Hp} {L : LR} {kvs : List (List Key × V)} (h : Robs H L) (hD : H D = some (.dT kvs)) (b : But D H H1) : Robs H1 L := fun p m => by
  obtain ⟨s, h1, h2⟩ := h p m
  exact ⟨s, b _ _ h1 (ne_kinds h1 hD (fun z => by cases z)), b _ _ h2 (ne_kinds h2 hD (fun z => by cases z))⟩
theorem nodup_le {α : Type} [DecidableEq α] : ∀ (l r : List α), l.Nodup → (∀ x ∈ l, x ∈ r) → l.length ≤ r.length
  | [], _, _, _ => Nat.zero_le _
  | x :: l, r, nd, h => by
    obtain ⟨n1, n2⟩ := List.nodup_cons.mp nd
    have mx := h x List.mem_cons_self
    have ih := nodup_le l (r.erase x) n2 fun y m => (List.mem_erase_of_ne (fun z : y = x => n1 (z ▸ m))).mpr (h y (List.mem_cons_of_mem _ m))
    have := List.length_erase_of_mem mx
    have := List.length_pos_of_mem mx
    rw [List.length_cons]
    omega
theorem put_mem (acc : List (List Int)) (v x : List Int) : x ∈ putKey acc v ↔ x ∈ acc ∨ x = v := by
  unfold putKey
  split
  · next c => exact ⟨.inl, fun h => h.elim id fun e => e ▸ c⟩
  · rw [List.mem_append, List.mem_singleton]
theorem puts_mem : ∀ (l : List (List Int)) (acc : List (List Int)) (x : List Int), x ∈ l.foldl putKey acc ↔ x ∈ acc ∨ x ∈ l
  | [], acc, x => by simp
  | v :: l, acc, x => by
    rw [List.foldl_cons, puts_mem l, put_mem, List.mem_cons]
    constructor
    · rintro ((h | h) | h)
      · exact .inl h
      · exact .inr (.inl h)
      · exact .inr (.inr h)
    · rintro (h | h | h)
      · exact .inl (.inl h)
      · exact .inl (.inr h)
      · exact .inr h
theorem put_nd {acc : List (List Int)} {v : List Int} (h : acc.Nodup) : (putKey acc v).Nodup := by
  unfold putKey
  split
  · exact h
  · next c =>
    rw [List.nodup_append]
    exact ⟨h, by simp, fun a ma b mb => by rw [List.mem_singleton.mp mb]; rintro rfl; exact c ma⟩
theorem puts_nd : ∀ (l : List (List Int)) {acc : List (List Int)}, acc.Nodup → (l.foldl putKey acc).Nodup
  | [], _, h => h
  | v :: l, _, h => puts_nd l (put_nd h)
/-! ### names_after -/
abbrev sAfter : Stmt := top 27
/-- the rings that may come next -/
def allAfter (ns : List Int) (L : List (Nat × List Int)) (m : Nat) : List (List Int) := (whoGo L m).flatMap fun g => ringsAfter ns g
def spAfter (_ : PySem.W.Frag) : Sp := fun vs H Q _ => ∃ (a t : Addr) (ns : List Int) (e m : Nat) (kvs : List (List Key × V)) (td : Nat → Nat) (d : Nat) (pool : List (List Int)), vs = [.ref a, .int (e : Int), .ref t, .int (m : Int)] ∧ H a = some (.tup (ns.map V.int)) ∧ 0 < ns.length ∧ ns.length ≤ 100 ∧ e ≤ 2 ∧ (∀ x ∈ ns, 0 ≤ x) ∧ ns.sum ≤ 8 ∧
  H t = some (.dT kvs) ∧ (∀ p : Nat, p < ns.length → 0 < ns.getD p 0 → valV kvs (kI (lesserRow (seenBy e ns) p)) = some (.int (td p : Nat))) ∧
  1 ≤ d ∧ pool.length < 64 ∧ (∀ v ∈ pool, v.length = d ∧ TS.Bd 4 v) ∧ (∀ r ∈ allAfter ns (eagerOf e ns td) m, nameOf r ∈ pool) ∧
  ∀ (H' : Hp) (q : Addr) (M : LA), Same H H' → H q = none → H' q = some (.lst (refs M)) → Tups H' M → M.length < 64 → (∀ x, x ∈ M.map (·.2) ↔ ∃ r ∈ allAfter ns (eagerOf e ns td) m, x = nameOf r) → Q (.ref q) H'
abbrev nAfter : List Str := ["ring", "eyes", "told", "moves", "names", "going", "after"]
theorem scAfter : FnScope nAfter ["ring", "eyes", "told", "moves"] (defScope sAfter) := ⟨rfl, rfl, rfl, by decide +kernel, rfl, by decide +kernel, by decide +kernel⟩
theorem all_up (ns : List Int) (G : List (List (Nat × List Int))) {i : Nat} {g : List (Nat × List Int)} (h : G[i]? = some g) : (G.take (i + 1)).flatMap (ringsAfter ns) = (G.take i).flatMap (ringsAfter ns) ++ ringsAfter ns g := by
  have hi := (List.getElem?_eq_some_iff.mp h).1
  rw [List.take_succ_eq_append_getElem hi, (List.getElem?_eq_some_iff.mp h).2, List.flatMap_append]
  simp
section
variable {P : Program} {w : World} {K : PySem.W.Frag} {mg : Str → Option Value} {base : Heap}
theorem ok_after {f fE fW fR fN : Addr} {fd fdE fdW fdR fdN : FuncData} (F : Fun K "names_after" "names_after" sAfter f fd) (O : Own mg) (E' : Def P w K mg base 3 "eager_robots" ["ring", "eyes", "told"] (spEager K) fE fdE)
    (W : Def P w K mg base 2 "who_may_go" ["eager", "moves"] (spWho K) fW fdW) (R : Def P w K mg base 2 "rings_after" ["ring", "going"] (spRings K) fR fdR) (N : Def P w K mg base 3 "name_of" ["ring"] (spName K) fN fdN) : FnOk P w K mg base CX0 4 f fd ["ring", "eyes", "told", "moves"] (spAfter K) := by
  refine F.ok scAfter (fun vs H Q E h => ?_) (fun cdv A outer s H vs Q E hr h => ?_)
  · obtain ⟨a, t, ns, e, m, kvs, td, d, pool, rfl, _⟩ := h
    rfl
  · obtain ⟨a, t, ns, e, m, kvs, td, d, pool, rfl, ha, l1, l2, he, nn, s8, ht, hv, hd, pl, pb, hp, k⟩ := h
    refine ⟨_, pss_cons (ps_set (i := 4) scAfter.nd rfl (Or.inl rfl) pe_dnewT)
      (pss_cons (ps_for PassesOwn.never rfl (pi_list (pe_call W.ok (hr.mono (by decide)) rfl W.g W.kp W.b .nil pass0 (pa_cons (pe_call E'.ok hr rfl E'.g E'.kp E'.b .nil pass0 (pa_cons (pv 0) (pa_cons (pv 1) (pa_cons (pv 2) pa_nil)))) (pa_cons (pv 3) pa_nil)))) (pg_name (i := 5) scAfter.nd rfl (Or.inl rfl))
        (pss_one (ps_for PassesOwn.never rfl (pi_list (pe_call R.ok (hr.mono (by decide)) rfl R.g R.kp R.b .nil pass0 (pa_cons (pv 0) (pa_cons (pv 5) pa_nil)))) (pg_name (i := 6) scAfter.nd rfl (Or.inl rfl))
          (pss_one (ps_dput (hu_of hr) (pv 4) (pe_call N.ok hr rfl N.g N.kp N.b .nil pass0 (pa_cons (pv 6) pa_nil)) pe_bl rfl)))))
      (pss_one (ps_ret (pe_callB (cr_sortD (d := d) (B := 4) hd rfl) (by rfl) O.sorted (by decide +kernel) (pa_cons (pv 4) pa_nil))))), ?_⟩
    intro D hD
    have sD := same_new (o := .dT []) hD
    have big : (100000 : Nat) < sizeLine := by decide
    refine ⟨_, rfl, _, rfl, _, rfl, a, t, ns, e, kvs, td, rfl, SqT.of (sD _ _ ha), l1, l2, he, nn, s8, sD _ _ ht, hv, fun H1 q1 L s1 n1 h1 r1 e1 => ?_⟩
    have l8 : L.length ≤ 8 := by
      have z := eager_len ns (seenBy e ns) td nn ns.length (Nat.le_refl _)
      rw [List.take_length] at z
      have z2 : L.length = (eagerUp ns (seenBy e ns) td ns.length).length := by rw [← List.length_map (f := (·.2)), e1]; rfl
      omega
    refine ⟨_, rfl, q1, refR L, m, rfl, h1, by rw [refR_len]; exact l8, fun H2 q2 G s2 n2 h2 r2 e2 => ?_⟩
    have e2 : G.map (·.2) = (whoGo L m).map refR := by rw [e2]; exact whoGo_map _ L m
    have s12 := s1.trans s2
    have hD2 : H2 D = some (.dT []) := s12 _ _ upd_same
    have s0 : Same H H2 := sD.trans s12
    have glen : G.length = (whoGo L m).length := by
      have := congrArg List.length e2
      rw [List.length_map, List.length_map] at this
      exact this
    have gs : (whoGo (L.map (·.2)) m) = (whoGo L m).map (List.map (·.2)) := whoGo_map _ L m
    have all : allAfter ns (eagerOf e ns td) m = ((whoGo L m).map (List.map (·.2))).flatMap (ringsAfter ns) := by unfold allAfter; rw [← e1, gs]
    refine ⟨q2, rfl, ⟨_, SqL.of h2⟩, for_list (K := K) (a := q2) (xs := refL G) (fun i σ H' => ∃ (u v : Option V) (kv : List (List Key × V)) (keys : List (List Int)), σ = [some (.ref a), some (.int (e : Int)), some (.ref t), some (.int (m : Int)), some (.ref D), u, v] ∧ But D H2 H' ∧ H' D = some (.dT kv) ∧ kv.map (·.1) = keys.map kI ∧ keys.Nodup ∧
        ∀ x, x ∈ keys ↔ ∃ r ∈ (((whoGo L m).map (List.map (·.2))).take i).flatMap (ringsAfter ns), x = nameOf r)
      ⟨none, none, [], [], rfl, But.refl _ _, hD2, rfl, List.nodup_nil, fun x => by simp⟩ (fun i σ H' _ ⟨_, _, _, _, _, b, _⟩ => SqL.of (b _ _ h2 (ne_kinds h2 hD2 (fun z => by cases z)))) ?_ ?_⟩
    · rintro i x σ H3 hi ⟨u, v, kv, keys, rfl, b3, h3, ek, nd, mem⟩
      obtain ⟨p, pi, rfl⟩ := refL_get hi
      have pm := List.mem_of_getElem? pi
      have gi : ((whoGo L m).map refR)[i]? = some p.2 := by rw [← e2]; exact snds_at pi
      rw [List.getElem?_map] at gi
      obtain ⟨g, hg, eg⟩ := Option.map_eq_some_iff.mp gi
      have gm := List.mem_of_getElem? hg
      obtain ⟨g8, gin⟩ := whoGo_in gm
      have gi2 : ((whoGo L m).map (List.map (·.2)))[i]? = some (g.map (·.2)) := by rw [List.getElem?_map, hg]; rfl
      have up := all_up ns _ gi2
      have hp3 : H3 p.1 = some (.lst (refR g)) := by rw [eg]; exact (r2.but hD2 b3) p pm
      have rg : Robs H3 g := fun r mr => ((r1.same s2).but hD2 b3) r (gin r mr)
      have ha3 : H3 a = some (.tup (ns.map V.int)) := b3 _ _ (s0 _ _ ha) (ne_kinds (s0 _ _ ha) hD2 (fun z => by cases z))
      refine ⟨_, rfl, _, rfl, a, p.1, ns, g, rfl, ha3, SqL.of hp3, rg, by omega, fun r mr => ?_, fun H4 q4 M s4 n4 h4 t4 e4 => ?_⟩
      · have : r.2 ∈ eagerUp ns (seenBy e ns) td ns.length := by
          have z : r.2 ∈ L.map (·.2) := List.mem_map_of_mem (gin r mr)
          rw [e1] at z
          exact z
        exact eager_in this
      · have q4D : q4 ≠ D := fun z => by rw [z, h3] at n4; cases n4
        refine ⟨q4, rfl, ⟨_, SqL.of h4⟩, for_list (K := K) (a := q4) (xs := refs M) (fun j σ H' => ∃ (v : Option V) (kv : List (List Key × V)) (keys : List (List Int)), σ = [some (.ref a), some (.int (e : Int)), some (.ref t), some (.int (m : Int)), some (.ref D), some (.ref p.1), v] ∧ But D H4 H' ∧ H' D = some (.dT kv) ∧ kv.map (·.1) = keys.map kI ∧ keys.Nodup ∧
            ∀ x, x ∈ keys ↔ (∃ r ∈ (((whoGo L m).map (List.map (·.2))).take i).flatMap (ringsAfter ns), x = nameOf r) ∨ ∃ r ∈ (ringsAfter ns (g.map (·.2))).take j, x = nameOf r)
          ⟨v, kv, keys, rfl, But.refl _ _, s4 _ _ h3, ek, nd, fun x => by rw [mem x]; simp⟩ (fun j σ H' _ ⟨_, _, _, _, b, _⟩ => SqL.of (b _ _ h4 q4D)) ?_ ?_⟩
        · rintro j y σ H5 hj ⟨v, kv, keys, rfl, b5, h5, ek, nd, mem⟩
          obtain ⟨r, rj, rfl⟩ := refs_get hj
          have rm := List.mem_of_getElem? rj
          have rj2 : (ringsAfter ns (g.map (·.2)))[j]? = some r.2 := by rw [← e4]; exact snds_at rj
          have jl := (List.getElem?_eq_some_iff.mp rj2).1
          have rlen : r.2.length = ns.length := rings_each _ [ns] ns.length (fun q mq => by rw [List.mem_singleton.mp mq]) _ (List.mem_of_getElem? rj2)
          have t5 : H5 r.1 = some (.tup (r.2.map V.int)) := (t4.but (s4 _ _ h3) b5) r rm
          refine ⟨_, rfl, _, rfl, r.1, r.2, rfl, SqT.of t5, by omega, by omega, fun H6 q6 s6 e6 => ?_⟩
          have klen : kv.length < sizeLine := by
            have z1 : kv.length = keys.length := by
              have := congrArg List.length ek
              rw [List.length_map, List.length_map] at this
              exact this
            have z2 := nodup_le keys pool nd fun x mx => by
              rcases (mem x).mp mx with ⟨r', mr', rfl⟩ | ⟨r', mr', rfl⟩
              · refine hp r' ?_
                rw [all]
                obtain ⟨g', mg', h'⟩ := List.mem_flatMap.mp mr'
                exact List.mem_flatMap.mpr ⟨g', List.mem_of_mem_take mg', h'⟩
              · refine hp r' ?_
                rw [all]
                exact List.mem_flatMap.mpr ⟨_, List.mem_of_getElem? gi2, List.mem_of_mem_take mr'⟩
            omega
          refine ⟨D, _, rfl, DPut.t (k := kI (nameOf r.2)) (s6 _ _ h5) (by rw [kI_kV]; exact e6) klen, ?_⟩
          refine ⟨_, _, putKey keys (nameOf r.2), rfl, (b5.same s6).upd, upd_same, putK_keys _ _ _ _ ek, put_nd nd, fun x => ?_⟩
          rw [put_mem, mem x, List.take_succ_eq_append_getElem jl, (List.getElem?_eq_some_iff.mp rj2).2, or_assoc]
          refine or_congr_right ⟨?_, ?_⟩
          · rintro (⟨r', mr', h'⟩ | h')
            · exact ⟨r', List.mem_append_left _ mr', h'⟩
            · exact ⟨r.2, List.mem_append_right _ (List.mem_singleton.mpr rfl), h'⟩
          · rintro ⟨r', mr', h'⟩
            rcases List.mem_append.mp mr' with mr' | mr'
            · exact .inl ⟨r', mr', h'⟩
            · rw [List.mem_singleton.mp mr'] at h'
              exact .inr h'
        · rintro σ H5 ⟨v, kv, keys, rfl, b5, h5, ek, nd, mem⟩
          rw [refs_len, List.take_of_length_le (l := ringsAfter ns (g.map (·.2))) (by rw [snd_len e4]; exact Nat.le_refl _)] at mem
          refine ⟨_, v, kv, keys, rfl, fun x o ex nx => b5 _ _ (s4 _ _ (b3 _ _ ex nx)) nx, h5, ek, nd, fun x => ?_⟩
          rw [mem x, up]
          constructor
          · rintro (⟨r', mr', h'⟩ | ⟨r', mr', h'⟩)
            · exact ⟨r', List.mem_append_left _ mr', h'⟩
            · exact ⟨r', List.mem_append_right _ mr', h'⟩
          · rintro ⟨r', mr', h'⟩
            rcases List.mem_append.mp mr' with mr' | mr'
            · exact .inl ⟨r', mr', h'⟩
            · exact .inr ⟨r', mr', h'⟩
    · rintro σ H3 ⟨u, v, kv, keys, rfl, b3, h3, ek, nd, mem⟩
      rw [refL_len, List.take_of_length_le (l := (whoGo L m).map (List.map (·.2))) (by rw [List.length_map, glen]; exact Nat.le_refl _), ← all] at mem
      have inp : ∀ x ∈ keys, x ∈ pool := fun x mx => by
        obtain ⟨r, mr, rfl⟩ := (mem x).mp mx
        exact hp r mr
      have s3 : Same H H3 := fun x o ex => b3 _ _ (s0 _ _ ex) (fun z => by rw [z, hD] at ex; cases ex)
      refine ⟨_, rfl, D, kv, keys, rfl, .inl h3, ek, Nat.lt_of_le_of_lt (nodup_le _ _ nd inp) pl, fun x mx => pb x (inp x mx), fun M q tM eM hq => ?_⟩
      refine k _ q M (s3.trans (same_new hq)) (s3.free hq) upd_same (tM.same (same_new hq)) (by rw [snd_len eM, (sortT_perm keys).length_eq]; exact Nat.lt_of_le_of_lt (nodup_le _ _ nd inp) pl) fun x => ?_
      rw [eM, ← mem x]
      exact (sortT_perm keys).mem_iff
end
end RF

/-! ## RFBoard -/
namespace RF
open PySem PySem.Spec PyProof.Rows L2
/-! ### the object, as plain data -/
structure SB where
  n : Nat
  e : Nat
  k : Nat
  a : Nat
  /-- the marked names, in the order in which they were marked -/
  ord : List Nat
  rule : List Nat
def SB.names (S : SB) : List (List Int) := namesOf S.n S.k
def SB.views (S : SB) : List (List Int) := viewsOf S.e S.names
def mostTold (ns : List Int) : Nat := if evenHanded ns then 1 else 2
structure SOk (S : SB) : Prop where
  n : 3 ≤ S.n ∧ S.n ≤ 7
  e : S.e ≤ 2
  k : 1 ≤ S.k ∧ S.k ≤ 3
  a : S.a ≤ 2
  nd : S.ord.Nodup
  lt : ∀ i ∈ S.ord, i < S.names.length
  rl : S.rule.length = S.views.length
  le : ∀ v x, S.rule[v]? = some x → x ≤ mostTold (S.views.getD v [])
def keyN (i : Nat) : Key := Sum.inl (i : Int)
/-- the first place of x -/
def placeIn (l : List (List Int)) (x : List Int) : Nat := l.findIdx fun y => decide (y = x)
def whoOf (S : SB) (i : Nat) : List Nat := (viewsIn S.e (S.names.getD i [])).map (placeIn S.views)
def zN (l : List Nat) : List Int := l.map fun i : Nat => (i : Int)
theorem vN_zN (l : List Nat) : vN l = (zN l).map V.int := by unfold vN zN; rw [List.map_map]; rfl
/-- the settings alone -/
def SB.base (S : SB) : Km537.Desk := ⟨S.n, S.e, S.k, 0, [], []⟩
def SB.ring (S : SB) (i : Nat) : List Nat := (Km534.names S.n S.k).getD i []
/-- what may be told of the views that are had in the i-th name -/
def doneOf (S : SB) (i : Nat) : List (List Nat) := Km537.allRules (Km537.seen S.base (S.ring i))
/-- which names may come next of the i-th one -/
def nextOf (S : SB) (i : Nat) (done : List Nat) (m : Nat) : List Nat :=
  (Km535.nextNames ⟨⟨S.ring i, S.e⟩, (Km537.seen S.base (S.ring i)).zip done, m⟩ m (S.ring i)).map fun x => ((Km534.names S.n S.k).findIdx? fun y => y == x).getD 0
def afterOf (S : SB) (i : Nat) (done : List Nat) (m : Nat) : Nat := bitsOf (nextOf S i done m)
/-- each rule with the names that gather surely by it -/
def sureEach (S : SB) (m : Nat) : List (List Nat × Nat) := (Km537.allSures S.base m).map fun p => (p.1, bitsOf p.2)
/-- what is kept of moves -/
def KmOk (S : SB) (k : K3) (v : Int) : Prop := ∃ (i : Nat) (done : List Nat) (m : Nat), k = ((i : Int), zN done, (m : Int)) ∧ i < S.names.length ∧ m ≤ 2 ∧ done ∈ doneOf S i ∧ v = (afterOf S i done m : Nat)
/-! ### how it lies in the heap -/
/-- one rule of those that are kept: where its pair stands, where the rule, the rule, the bits -/
abbrev QE := Addr × Addr × List Nat × Nat
structure BP where
  dx : Addr
  aN : Addr
  aV : Addr
  aH : Addr
  aM : Addr
  aR : Addr
  aK : Addr
  aQ : Addr
  fs : List (Str × V)
  LN : LA
  LV : LA
  LH : List (Addr × List Nat)
  kvs : List (Key × V)
  km : N3
  kq : List (Nat × Addr × List QE)
def BP.lists (p : BP) : List Addr := p.LH.map (·.1) ++ p.kq.map (·.2.1)
def BP.own (p : BP) (b : Addr) : List Addr := b :: p.aN :: p.aV :: p.aH :: p.aM :: p.aR :: p.aK :: p.aQ :: p.lists
def refH (L : List (Addr × List Nat)) : List V := L.map fun x => V.ref x.1
def refQ (L : List QE) : List V := L.map fun x => V.ref x.1
def kqD (kq : List (Nat × Addr × List QE)) : List (Key × V) := kq.map fun x => (keyN x.1, V.ref x.2.1)
structure BoardIn (P : Program) (w : World) (C : Addr) (H : Hp) (b : Addr) (p : BP) (S : SB) : Prop where
  obj : H b = some (.ins C p.dx p.fs)
  few : p.fs.length ≤ 900
  fp : p.fs.lookup ("places" : Str) = some (V.int S.n)
  fe : p.fs.lookup ("eyes" : Str) = some (V.int S.e)
  fk : p.fs.lookup ("robots" : Str) = some (V.int S.k)
  fa : p.fs.lookup ("moves" : Str) = some (V.int S.a)
  fN : p.fs.lookup ("names" : Str) = some (V.ref p.aN)
  fV : p.fs.lookup ("views" : Str) = some (V.ref p.aV)
  fH : p.fs.lookup ("had" : Str) = some (V.ref p.aH)
  fM : p.fs.lookup ("marked" : Str) = some (V.ref p.aM)
  fR : p.fs.lookup ("rule" : Str) = some (V.ref p.aR)
  fK : p.fs.lookup ("known_moves" : Str) = some (V.ref p.aK)
  fQ : p.fs.lookup ("known_sure" : Str) = some (V.ref p.aQ)
  hN : H p.aN = some (.lst (refs p.LN))
  tN : Tups H p.LN
  eN : p.LN.map (·.2) = S.names
  hV : H p.aV = some (.lst (refs p.LV))
  tV : Tups H p.LV
  eV : p.LV.map (·.2) = S.views
  hH : H p.aH = some (.lst (refH p.LH))
  tH : ∀ x ∈ p.LH, H x.1 = some (.lst (vN x.2))
  eH : p.LH.map (·.2) = (List.range S.names.length).map (whoOf S)
  hM : H p.aM = some (.dK p.kvs)
  eM : p.kvs.map (·.1) = S.ord.map keyN
  hR : H p.aR = some (.lst (S.rule.map fun x : Nat => V.int x))
  hK : H p.aK = some (NestO P w p.aK p.km)
  tK : KeysAt H p.km
  cK : ∀ x ∈ p.km, KmOk S x.1 x.2.2
  nK : (p.km.map (·.1)).Nodup
  hQ : H p.aQ = some (.dK (kqD p.kq))
  nQ : (p.kq.map (·.1)).Nodup
  lQ : ∀ x ∈ p.kq, x.1 ≤ 2
  tQ : ∀ x ∈ p.kq, H x.2.1 = some (.lst (refQ x.2.2))
  rQ : ∀ x ∈ p.kq, ∀ y ∈ x.2.2, H y.1 = some (.tup [.ref y.2.1, .int (y.2.2.2 : Nat)]) ∧ H y.2.1 = some (.tup (vN y.2.2.1))
  cQ : ∀ x ∈ p.kq, (x.2.2.map fun y => y.2.2) = sureEach S x.1
  dis : ∀ x ∈ p.aN :: p.aV :: p.aH :: p.lists, x ≠ p.aR
  dMQ : p.aM ≠ p.aQ
def Board (P : Program) (w : World) (C : Addr) (H : Hp) (b : Addr) (own : List Addr) (S : SB) : Prop := ∃ p, BoardIn P w C H b p S ∧ own = p.own b
/-- all that was tracked outside of own stands -/
def Keeps (H : Hp) (own : List Addr) (H' : Hp) : Prop := ∀ x o, H x = some o → x ∉ own → H' x = some o
theorem Same.keeps {H H' : Hp} (h : Same H H') (own : List Addr) : Keeps H own H' := fun x o e _ => h x o e
section
variable {P : Program} {w : World} {C : Addr} {H H' : Hp} {b : Addr} {p : BP} {own : List Addr} {S : SB}
theorem in_LH {x : Addr × List Nat} (m : x ∈ p.LH) : x.1 ∈ p.lists := List.mem_append_left _ (List.mem_map_of_mem m)
theorem in_kq {x : Nat × Addr × List QE} (m : x ∈ p.kq) : x.2.1 ∈ p.lists := List.mem_append_right _ (List.mem_map.mpr ⟨x, m, rfl⟩)
theorem own_list {x : Addr} (m : x ∈ p.lists) : x ∈ p.own b := by unfold BP.own; simp [m]
theorem BoardIn.frame (I : BoardIn P w C H b p S) (h : ∀ x ∈ p.own b, H' x = H x) (t : ∀ x vs, H x = some (.tup vs) → H' x = some (.tup vs)) : BoardIn P w C H' b p S :=
  { I with
    obj := by rw [h b (by unfold BP.own; simp)]; exact I.obj
    hN := by rw [h p.aN (by unfold BP.own; simp)]; exact I.hN
    tN := fun q m => t _ _ (I.tN q m)
    hV := by rw [h p.aV (by unfold BP.own; simp)]; exact I.hV
    tV := fun q m => t _ _ (I.tV q m)
    hH := by rw [h p.aH (by unfold BP.own; simp)]; exact I.hH
    tH := fun x m => by rw [h x.1 (own_list (in_LH m))]; exact I.tH x m
    hM := by rw [h p.aM (by unfold BP.own; simp)]; exact I.hM
    hR := by rw [h p.aR (by unfold BP.own; simp)]; exact I.hR
    hK := by rw [h p.aK (by unfold BP.own; simp)]; exact I.hK
    tK := I.tK.mono t
    hQ := by rw [h p.aQ (by unfold BP.own; simp)]; exact I.hQ
    tQ := fun x m => by rw [h x.2.1 (own_list (in_kq m))]; exact I.tQ x m
    rQ := fun x m y my => ⟨t _ _ (I.rQ x m y my).1, t _ _ (I.rQ x m y my).2⟩ }
theorem Board.frame (B : Board P w C H b own S) (h : ∀ x ∈ own, H' x = H x) (t : ∀ x vs, H x = some (.tup vs) → H' x = some (.tup vs)) : Board P w C H' b own S := by
  obtain ⟨p, I, rfl⟩ := B
  exact ⟨p, I.frame h t, rfl⟩
theorem BoardIn.live (I : BoardIn P w C H b p S) : ∀ x ∈ p.own b, ∃ o, H x = some o ∧ ∀ vs, o ≠ .tup vs := by
  intro x m
  unfold BP.own BP.lists at m
  simp only [List.mem_cons, List.mem_append] at m
  rcases m with rfl | rfl | rfl | rfl | rfl | rfl | rfl | rfl | m | m
  · exact ⟨_, I.obj, fun _ z => by cases z⟩
  · exact ⟨_, I.hN, fun _ z => by cases z⟩
  · exact ⟨_, I.hV, fun _ z => by cases z⟩
  · exact ⟨_, I.hH, fun _ z => by cases z⟩
  · exact ⟨_, I.hM, fun _ z => by cases z⟩
  · exact ⟨_, I.hR, fun _ z => by cases z⟩
  · exact ⟨_, I.hK, fun _ z => by cases z⟩
  · exact ⟨_, I.hQ, fun _ z => by cases z⟩
  · obtain ⟨y, my, rfl⟩ := List.mem_map.mp m
    exact ⟨_, I.tH y my, fun _ z => by cases z⟩
  · obtain ⟨y, my, rfl⟩ := List.mem_map.mp m
    exact ⟨_, I.tQ y my, fun _ z => by cases z⟩
theorem Board.live (B : Board P w C H b own S) : ∀ x ∈ own, ∃ o, H x = some o := fun x m => by
  obtain ⟨p, I, rfl⟩ := B
  obtain ⟨o, e, _⟩ := I.live x m
  exact ⟨o, e⟩
theorem Board.notup (B : Board P w C H b own S) {x : Addr} {vs : List V} (h : H x = some (.tup vs)) : x ∉ own := fun m => by
  obtain ⟨p, I, rfl⟩ := B
  obtain ⟨o, e, n⟩ := I.live x m
  rw [h] at e
  exact n vs (Option.some.inj e).symm
theorem BoardIn.same (I : BoardIn P w C H b p S) (h : Same H H') : BoardIn P w C H' b p S :=
  I.frame (fun x m => by obtain ⟨o, e, _⟩ := I.live x m; rw [e]; exact h x o e) fun x vs e => h x _ e
theorem Board.same (B : Board P w C H b own S) (h : Same H H') : Board P w C H' b own S := by
  obtain ⟨p, I, rfl⟩ := B
  exact ⟨p, I.same h, rfl⟩
theorem not_own (B : Board P w C H b own S) {q : Addr} (h : H q = none) : q ∉ own := fun m => by
  obtain ⟨o, e⟩ := B.live q m
  rw [h] at e
  cases e
end
/-- facts of the class -/
structure Txt (K : PySem.W.Frag) (mg : Str → Option Value) (C : Addr) : Prop where
  cl : Cls K C
  gC : mg "Board" = some (.ref C)
  nP : NoAttr K C "places"
  nE : NoAttr K C "eyes"
  nK : NoAttr K C "robots"
  nA : NoAttr K C "moves"
  nN : NoAttr K C "names"
  nV : NoAttr K C "views"
  nH : NoAttr K C "had"
  nM : NoAttr K C "marked"
  nR : NoAttr K C "rule"
  nY : NoAttr K C "known_moves"
  nQ : NoAttr K C "known_sure"
/-! ### a call's promise -/
def spCall (P : Program) (w : World) (K : PySem.W.Frag) (C : Addr) (pre : SB → List Int → Prop) (f : SB → List Int → SB × List Int) : Sp := fun vs H Q _ => ∃ (b ar : Addr) (own : List Addr) (S : SB) (as : List Int), vs = [.ref b, .ref ar] ∧ Board P w C H b own S ∧ SOk S ∧ SqL K H ar (as.map V.int) ∧ ar ∉ own ∧ pre S as ∧
  ∀ (H' : Hp) (q : Addr) (own' : List Addr), Board P w C H' b own' (f S as).1 → (∀ x ∈ own', x ∈ own ∨ H x = none) → Keeps H own H' → H' q = some (.lst ((f S as).2.map V.int)) → H q = none → q ∉ own' → Q (.ref q) H'
section
variable {P : Program} {w : World} {K : PySem.W.Frag} {mg : Str → Option Value} {base : Heap} {C : Addr}
/-- an answer that changes nothing -/
theorem call_pure {H H' : Hp} {b q : Addr} {own : List Addr} {S : SB} {ans : List Int} {Q : VK} (B : Board P w C H b own S) (s : Same H H') (hq : H q = none) (e : H' q = some (.lst (ans.map V.int)))
    (k : ∀ (H' : Hp) (q : Addr) (own' : List Addr), Board P w C H' b own' S → (∀ x ∈ own', x ∈ own ∨ H x = none) → Keeps H own H' → H' q = some (.lst (ans.map V.int)) → H q = none → q ∉ own' → Q (.ref q) H') : Q (.ref q) H' :=
  k H' q own (B.same s) (fun _ m => .inl m) (Same.keeps s own) e hq (not_own B hq)
/-! ### call_names, call_views -/
abbrev sCNames : Stmt := top 60
theorem scCNames : FnScope ["board", "arguments"] ["board", "arguments"] (defScope sCNames) := ⟨rfl, rfl, rfl, by decide +kernel, rfl, by decide +kernel, by decide +kernel⟩
theorem ok_cnames {f : Addr} {fd : FuncData} (F : Fun K "call_names" "call_names" sCNames f fd) (O : Own mg) (T : Txt K mg C) : FnOk P w K mg base CX0 1 f fd ["board", "arguments"] (spCall P w K C (fun _ _ => True) fun S _ => (S, [(S.names.length : Int)])) := by
  refine F.ok scCNames (fun vs H Q E h => ?_) (fun cdv A outer s H vs Q E hr h => ?_)
  · obtain ⟨b, ar, own, S, as, rfl, _⟩ := h
    rfl
  · refine ⟨_, pss_one (ps_ret (pe_lst (pa_cons (pe_callB call_len_seq (by rfl) O.len PySem.boot_len (pa_cons (pe_fld (pv 0) rfl) pa_nil)) pa_nil))), ?_⟩
    obtain ⟨b, ar, own, S, as, rfl, B, ok, ha, har, _, k⟩ := h
    obtain ⟨Y, I, eo⟩ := id B
    refine ⟨_, rfl, b, C, Y.dx, Y.fs, _, rfl, I.obj, T.cl, T.nN, I.fN, Y.aN, _, rfl, .inl (SqL.of I.hN), by show 1 ≤ sizeLine; decide, fun q hq => ?_⟩
    refine call_pure B (same_new hq) hq ?_ k
    rw [upd_same, refs_len, snd_len I.eN]
    rfl
abbrev sCViews : Stmt := top 62
theorem scCViews : FnScope ["board", "arguments"] ["board", "arguments"] (defScope sCViews) := ⟨rfl, rfl, rfl, by decide +kernel, rfl, by decide +kernel, by decide +kernel⟩
theorem ok_cviews {f : Addr} {fd : FuncData} (F : Fun K "call_views" "call_views" sCViews f fd) (O : Own mg) (T : Txt K mg C) : FnOk P w K mg base CX0 1 f fd ["board", "arguments"] (spCall P w K C (fun _ _ => True) fun S _ => (S, [(S.views.length : Int)])) := by
  refine F.ok scCViews (fun vs H Q E h => ?_) (fun cdv A outer s H vs Q E hr h => ?_)
  · obtain ⟨b, ar, own, S, as, rfl, _⟩ := h
    rfl
  · refine ⟨_, pss_one (ps_ret (pe_lst (pa_cons (pe_callB call_len_seq (by rfl) O.len PySem.boot_len (pa_cons (pe_fld (pv 0) rfl) pa_nil)) pa_nil))), ?_⟩
    obtain ⟨b, ar, own, S, as, rfl, B, ok, ha, har, _, k⟩ := h
    obtain ⟨Y, I, eo⟩ := id B
    refine ⟨_, rfl, b, C, Y.dx, Y.fs, _, rfl, I.obj, T.cl, T.nV, I.fV, Y.aV, _, rfl, .inl (SqL.of I.hV), by show 1 ≤ sizeLine; decide, fun q hq => ?_⟩
    refine call_pure B (same_new hq) hq ?_ k
    rw [upd_same, refs_len, snd_len I.eV]
    rfl
end
end RF

/-! ## RFCallsA -/
namespace RF
open PySem PySem.Spec PyProof.Rows L2
def a0 (as : List Int) : Nat := (as.getD 0 0).toNat
theorem at_a0 {as : List Int} (h : 0 < as.length) (h0 : 0 ≤ as.getD 0 0) : atI (as.map V.int) 0 = some (V.int (a0 as)) := by
  refine atI_nat (j := 0) ?_
  cases as with
  | nil => cases h
  | cons x r =>
    have h0 : 0 ≤ x := h0
    show some (V.int x) = some (V.int ((x.toNat : Nat) : Int))
    rw [Int.toNat_of_nonneg h0]
/-- the call's number names one of so many -/
def Names0 (m : SB → Nat) (S : SB) (as : List Int) : Prop := 0 < as.length ∧ 0 ≤ as.getD 0 0 ∧ a0 as < m S
theorem refs_at {L : LA} {nss : List (List Int)} (e : L.map (·.2) = nss) {i : Nat} (h : i < nss.length) : ∃ p, p ∈ L ∧ L[i]? = some p ∧ p.2 = nss.getD i [] ∧ atI (refs L) (i : Int) = some (V.ref p.1) := by
  have hl : i < L.length := by rw [snd_len e]; exact h
  refine ⟨L[i], List.getElem_mem hl, List.getElem?_eq_getElem hl, ?_, atI_nat ?_⟩
  · rw [← e, List.getD_eq_getElem?_getD, List.getElem?_map, List.getElem?_eq_getElem hl]
    rfl
  · unfold refs
    rw [List.getElem?_map, List.getElem?_eq_getElem hl]
    rfl
/-! ### counted -/
abbrev sCounted : Stmt := top 58
def spCounted : Sp := fun vs H Q _ => ∃ (a : Addr) (ns : List Int), vs = [.ref a] ∧ H a = some (.lst (ns.map V.int)) ∧ ns.length < 1000 ∧ ∀ (H' : Hp) (q : Addr), Same H H' → H q = none → H' q = some (.lst (((ns.length : Int) :: ns).map V.int)) → Q (.ref q) H'
theorem scCounted : FnScope ["numbers"] ["numbers"] (defScope sCounted) := ⟨rfl, rfl, rfl, by decide +kernel, rfl, by decide +kernel, by decide +kernel⟩
section
variable {P : Program} {w : World} {K : PySem.W.Frag} {mg : Str → Option Value} {base : Heap} {C : Addr}
theorem ok_counted {f : Addr} {fd : FuncData} (F : Fun K "counted" "counted" sCounted f fd) (O : Own mg) : FnOk P w K mg base CX0 1 f fd ["numbers"] spCounted := by
  refine F.ok scCounted (fun vs H Q E h => ?_) (fun cdv A outer s H vs Q E hr h => ?_)
  · obtain ⟨a, ns, rfl, _⟩ := h
    rfl
  · refine ⟨_, pss_one (ps_ret (pe_op op_cat (pe_lst (pa_cons (pe_callB call_len_seq (by rfl) O.len PySem.boot_len (pa_cons (pv 0) pa_nil)) pa_nil)) (pv 0))), ?_⟩
    obtain ⟨a, ns, rfl, ha, few, k⟩ := h
    refine ⟨_, rfl, a, _, rfl, .inl (SqL.of ha), by show 1 ≤ sizeLine; decide, fun D hD => ?_⟩
    refine ⟨_, rfl, D, a, _, _, rfl, rfl, upd_same, same_new hD _ _ ha, ?_, fun q hq => ?_⟩
    · rw [List.length_map]
      have : (1000 : Nat) < sizeLine := by decide
      show 1 + ns.length ≤ sizeLine
      omega
    · refine k _ q ((same_new hD).trans (same_new hq)) ((same_new hD).free hq) ?_
      rw [upd_same, List.length_map]
      rfl
/-! ### call_name -/
abbrev sCName : Stmt := top 61
def fName (S : SB) (as : List Int) : SB × List Int := (S, ((S.names.getD (a0 as) []).length : Int) :: S.names.getD (a0 as) [])
theorem scCName : FnScope ["board", "arguments"] ["board", "arguments"] (defScope sCName) := ⟨rfl, rfl, rfl, by decide +kernel, rfl, by decide +kernel, by decide +kernel⟩
theorem ok_cname {f fC : Addr} {fd fdC : FuncData} (F : Fun K "call_name" "call_name" sCName f fd) (O : Own mg) (T : Txt K mg C) (N : Def P w K mg base 1 "counted" ["numbers"] spCounted fC fdC) (short : ∀ S : SB, SOk S → ∀ r ∈ S.names, r.length < 1000) :
    FnOk P w K mg base CX0 2 f fd ["board", "arguments"] (spCall P w K C (Names0 fun S => S.names.length) fName) := by
  refine F.ok scCName (fun vs H Q E h => ?_) (fun cdv A outer s H vs Q E hr h => ?_)
  · obtain ⟨b, ar, own, S, as, rfl, _⟩ := h
    rfl
  · refine ⟨_, pss_one (ps_ret (pe_call N.ok hr rfl N.g N.kp N.b .nil pass0 (pa_cons (pe_callTy call_list_of (by rfl) O.list (by decide +kernel) (pa_cons (pe_ix ix_list (pe_fld (pv 0) rfl) (pe_ix ix_list (pv 1) pe_int (fun _ _ => rfl)) (fun _ _ => rfl)) pa_nil)) pa_nil))), ?_⟩
    obtain ⟨b, ar, own, S, as, rfl, B, ok, ha, har, ⟨h1, h2, h3⟩, k⟩ := h
    obtain ⟨Y, I, eo⟩ := id B
    obtain ⟨p, pm, _, pe, pat⟩ := refs_at I.eN h3
    refine ⟨_, rfl, b, C, Y.dx, Y.fs, _, rfl, I.obj, T.cl, T.nN, I.fN, _, rfl, ar, _, _, _, rfl, rfl, ha, at_a0 h1 h2, Y.aN, _, _, _, rfl, rfl, SqL.of I.hN, pat, p.1, _, rfl, .inr (SqT.of (I.tN p pm)), fun l hl => ?_⟩
    have pin : p.2 ∈ S.names := by rw [← I.eN]; exact List.mem_map_of_mem pm
    refine ⟨l, p.2, rfl, upd_same, short S ok _ pin, fun H' q s' n' e' => ?_⟩
    refine call_pure B ((same_new hl).trans s') ((same_new hl).free n') ?_ k
    rw [e', pe]
    rfl
/-! ### call_view -/
abbrev sCView : Stmt := top 63
def fView (S : SB) (as : List Int) : SB × List Int := (S, (if evenHanded (S.views.getD (a0 as) []) then 1 else 0) :: S.views.getD (a0 as) [])
theorem scCView : FnScope ["board", "arguments", "view"] ["board", "arguments"] (defScope sCView) := ⟨rfl, rfl, rfl, by decide +kernel, rfl, by decide +kernel, by decide +kernel⟩
theorem ok_cview {f fE : Addr} {fd fdE : FuncData} (F : Fun K "call_view" "call_view" sCView f fd) (O : Own mg) (T : Txt K mg C) (N : Def P w K mg base 2 "even_handed" ["row"] (spEven K) fE fdE) (short : ∀ S : SB, SOk S → ∀ r ∈ S.views, 0 < r.length ∧ r.length ≤ 100) :
    FnOk P w K mg base CX0 3 f fd ["board", "arguments"] (spCall P w K C (Names0 fun S => S.views.length) fView) := by
  refine F.ok scCView (fun vs H Q E h => ?_) (fun cdv A outer s H vs Q E hr h => ?_)
  · obtain ⟨b, ar, own, S, as, rfl, _⟩ := h
    rfl
  · refine ⟨_, pss_cons (ps_set (i := 2) scCView.nd rfl (Or.inl rfl) (pe_ix ix_list (pe_fld (pv 0) rfl) (pe_ix ix_list (pv 1) pe_int (fun _ _ => rfl)) (fun _ _ => rfl)))
      (pss_one (ps_ret (pe_op op_cat (pe_lst (pa_cons (pe_ifExp (pt_val (pe_call N.ok hr rfl N.g N.kp N.b .nil pass0 (pa_cons (pv 2) pa_nil))) pe_int pe_int) pa_nil)) (pe_callTy call_list_of (by rfl) O.list (by decide +kernel) (pa_cons (pv 2) pa_nil))))), ?_⟩
    obtain ⟨b, ar, own, S, as, rfl, B, ok, ha, har, ⟨h1, h2, h3⟩, k⟩ := h
    obtain ⟨Y, I, eo⟩ := id B
    obtain ⟨p, pm, _, pe, pat⟩ := refs_at I.eV h3
    have pin : p.2 ∈ S.views := by rw [← I.eV]; exact List.mem_map_of_mem pm
    obtain ⟨l1, l2⟩ := short S ok _ pin
    refine ⟨_, rfl, b, C, Y.dx, Y.fs, _, rfl, I.obj, T.cl, T.nV, I.fV, _, rfl, ar, _, _, _, rfl, rfl, ha, at_a0 h1 h2, Y.aV, _, _, _, rfl, rfl, SqL.of I.hV, pat, ?_⟩
    refine ⟨_, rfl, p.1, p.2, rfl, SqT.of (I.tV p pm), l1, l2, fun H1 s1 => ⟨_, rfl, ?_⟩⟩
    have big : (1000 : Nat) < sizeLine := by decide
    have last : ∀ (z : Int) (D l q : Addr), z = (if evenHanded p.2 = true then 1 else 0) → H1 D = none → upd H1 D (.lst [V.int z]) l = none → upd (upd H1 D (.lst [V.int z])) l (.lst (p.2.map V.int)) q = none →
        Q (.ref q) (upd (upd (upd H1 D (.lst [V.int z])) l (.lst (p.2.map V.int))) q (.lst ([V.int z] ++ p.2.map V.int))) := fun z D l q ez hD hl hq => by
      have sA := (s1.trans (same_new (o := .lst [V.int z]) hD)).trans (same_new (o := .lst (p.2.map V.int)) hl)
      refine call_pure B (sA.trans (same_new hq)) (sA.free hq) ?_ k
      rw [upd_same, ez, pe]
      rfl
    cases c : evenHanded p.2 with
    | true =>
      refine iteT ⟨by show 1 ≤ sizeLine; decide, fun D hD => ⟨_, rfl, p.1, _, rfl, .inr (SqT.of ((s1.trans (same_new hD)) _ _ (I.tV p pm))), fun l hl => ⟨D, l, _, _, rfl, rfl, (same_new hl) _ _ upd_same, upd_same, ?_, fun q hq => last 1 D l q (by rw [c]; rfl) hD hl hq⟩⟩⟩
      rw [List.length_map]
      show 1 + p.2.length ≤ sizeLine
      omega
    | false =>
      refine iteF ⟨by show 1 ≤ sizeLine; decide, fun D hD => ⟨_, rfl, p.1, _, rfl, .inr (SqT.of ((s1.trans (same_new hD)) _ _ (I.tV p pm))), fun l hl => ⟨D, l, _, _, rfl, rfl, (same_new hl) _ _ upd_same, upd_same, ?_, fun q hq => last 0 D l q (by rw [c]; rfl) hD hl hq⟩⟩⟩
      rw [List.length_map]
      show 1 + p.2.length ≤ sizeLine
      omega
end
end RF

/-! ## RFCallsB -/
namespace RF
open PySem PySem.Spec PyProof.Rows L2
/-- the numbers that the refusals bear -/
structure Nos (mg : Str → Option Value) : Prop where
  out : ∃ t, mg "OUT_OF_RANGE" = some (.int (-22) t)
  no : ∃ t, mg "NO_SUCH" = some (.int (-2) t)
  notM : ∃ t, mg "NOT_MARKED" = some (.int (-6) t)
  again : ∃ t, mg "MARKED_ALREADY" = some (.int (-17) t)
  early : ∃ t, mg "NOT_BEGUN" = some (.int (-11) t)
  good : ∃ t, mg "SOME_RULE_IS_GOOD" = some (.int (-6) t)
  many : ∃ t, mg "TOO_MANY_RULES" = some (.int (-28) t)
  none : ∃ t, mg "NO_GOOD_RULE" = some (.int (-33) t)
  most : ∃ t, mg "MOST_RULES" = some (.int 6000 t)
section
variable {P : Program} {w : World} {C : Addr} {H : Hp} {b : Addr} {p : BP} {S : SB}
theorem put_len (f : Str) (v : V) : ∀ (fs : List (Str × V)) {u : V}, fs.lookup f = some u → (putF f v fs).length = fs.length
  | [], u, h => by cases h
  | (g, x) :: r, u, h => by
    unfold putF
    by_cases c : g = f
    · rw [if_pos c]; rfl
    · rw [if_neg c]
      have c2 : (f == g) = false := beq_eq_false_iff_ne.mpr (Ne.symm c)
      rw [List.lookup_cons, c2] at h
      rw [List.length_cons, List.length_cons, put_len f v r h]
theorem tups_off {H : Hp} {L : LA} {x : Addr} {o u : HO} (h : Tups H L) (e : H x = some u) (k : ∀ vs, u ≠ .tup vs) : Tups (upd H x o) L := fun p m => by
  rw [upd_ne (fun z => k _ (Option.some.inj (e.symm.trans (z ▸ h p m))))]
  exact h p m
theorem keys_off {H : Hp} {km : N3} {x : Addr} {o u : HO} (h : KeysAt H km) (e : H x = some u) (k : ∀ vs, u ≠ .tup vs) : KeysAt (upd H x o) km := h.mono fun y vs ey => by
  rw [upd_ne (fun z => k _ (Option.some.inj (e.symm.trans (z ▸ ey))))]
  exact ey
theorem tup_off {H : Hp} {x y : Addr} {vs : List V} {o u : HO} (h : H y = some (.tup vs)) (e : H x = some u) (k : ∀ vs, u ≠ .tup vs) : upd H x o y = some (.tup vs) := by
  rw [upd_ne (fun z => k _ (Option.some.inj (e.symm.trans (z ▸ h))))]
  exact h
/-- all but one of its own stands, the tuples too -/
theorem BoardIn.obj_set (I : BoardIn P w C H b p S) (fs : List (Str × V)) (o : HO) : (∀ x ∈ p.own b, x ≠ b → upd H b o x = H x) ∧ (∀ y vs, H y = some (.tup vs) → upd H b o y = some (.tup vs)) :=
  ⟨fun x _ n => upd_ne n, fun y vs e => tup_off e I.obj (fun _ z => by cases z)⟩
/-- a value of the object changes: moves -/
theorem BoardIn.moves (I : BoardIn P w C H b p S) (m : Nat) : BoardIn P w C (upd H b (.ins C p.dx (putF "moves" (.int m) p.fs))) b { p with fs := putF "moves" (.int m) p.fs } { S with a := m } where
  obj := upd_same
  few := by rw [put_len _ _ _ I.fa]; exact I.few
  fp := by rw [lookup_putF, if_neg (by decide)]; exact I.fp
  fe := by rw [lookup_putF, if_neg (by decide)]; exact I.fe
  fk := by rw [lookup_putF, if_neg (by decide)]; exact I.fk
  fa := by rw [lookup_putF, if_pos rfl]
  fN := by rw [lookup_putF, if_neg (by decide)]; exact I.fN
  fV := by rw [lookup_putF, if_neg (by decide)]; exact I.fV
  fH := by rw [lookup_putF, if_neg (by decide)]; exact I.fH
  fM := by rw [lookup_putF, if_neg (by decide)]; exact I.fM
  fR := by rw [lookup_putF, if_neg (by decide)]; exact I.fR
  fK := by rw [lookup_putF, if_neg (by decide)]; exact I.fK
  fQ := by rw [lookup_putF, if_neg (by decide)]; exact I.fQ
  hN := by rw [upd_ne (ne_kinds I.hN I.obj (fun z => by cases z))]; exact I.hN
  tN := tups_off I.tN I.obj (fun _ z => by cases z)
  eN := I.eN
  hV := by rw [upd_ne (ne_kinds I.hV I.obj (fun z => by cases z))]; exact I.hV
  tV := tups_off I.tV I.obj (fun _ z => by cases z)
  eV := I.eV
  hH := by rw [upd_ne (ne_kinds I.hH I.obj (fun z => by cases z))]; exact I.hH
  tH := fun x m => by rw [upd_ne (ne_kinds (I.tH x m) I.obj (fun z => by cases z))]; exact I.tH x m
  eH := I.eH
  hM := by rw [upd_ne (ne_kinds I.hM I.obj (fun z => by cases z))]; exact I.hM
  eM := I.eM
  hR := by rw [upd_ne (ne_kinds I.hR I.obj (fun z => by cases z))]; exact I.hR
  hK := by rw [upd_ne (ne_kinds I.hK I.obj (fun z => by cases z))]; exact I.hK
  tK := keys_off I.tK I.obj (fun _ z => by cases z)
  cK := I.cK
  nK := I.nK
  hQ := by rw [upd_ne (ne_kinds I.hQ I.obj (fun z => by cases z))]; exact I.hQ
  nQ := I.nQ
  lQ := I.lQ
  tQ := fun x m => by rw [upd_ne (ne_kinds (I.tQ x m) I.obj (fun z => by cases z))]; exact I.tQ x m
  rQ := fun x m y my => ⟨tup_off (I.rQ x m y my).1 I.obj (fun _ z => by cases z), tup_off (I.rQ x m y my).2 I.obj (fun _ z => by cases z)⟩
  cQ := I.cQ
  dis := I.dis
  dMQ := I.dMQ
/-- the rule's list changes -/
theorem BoardIn.rules (I : BoardIn P w C H b p S) (r : List Nat) : BoardIn P w C (upd H p.aR (.lst (r.map fun x : Nat => V.int x))) b p { S with rule := r } :=
  { I with
    obj := by rw [upd_ne (ne_kinds I.obj I.hR (fun z => by cases z))]; exact I.obj
    hN := by rw [upd_ne (I.dis _ (by simp))]; exact I.hN
    tN := tups_off I.tN I.hR (fun _ z => by cases z)
    hV := by rw [upd_ne (I.dis _ (by simp))]; exact I.hV
    tV := tups_off I.tV I.hR (fun _ z => by cases z)
    hH := by rw [upd_ne (I.dis _ (by simp))]; exact I.hH
    tH := fun x m => by rw [upd_ne (I.dis _ (by simp [in_LH m]))]; exact I.tH x m
    hM := by rw [upd_ne (ne_kinds I.hM I.hR (fun z => by cases z))]; exact I.hM
    hR := upd_same
    hK := by rw [upd_ne (ne_kinds I.hK I.hR (fun z => by cases z))]; exact I.hK
    tK := keys_off I.tK I.hR (fun _ z => by cases z)
    hQ := by rw [upd_ne (ne_kinds I.hQ I.hR (fun z => by cases z))]; exact I.hQ
    tQ := fun x m => by rw [upd_ne (I.dis _ (by simp [in_kq m]))]; exact I.tQ x m
    rQ := fun x m y my => ⟨tup_off (I.rQ x m y my).1 I.hR (fun _ z => by cases z), tup_off (I.rQ x m y my).2 I.hR (fun _ z => by cases z)⟩ }
/-- the marks' dict changes -/
theorem BoardIn.marks (I : BoardIn P w C H b p S) {ks : List (Key × V)} {o : List Nat} (e : ks.map (·.1) = o.map keyN) : BoardIn P w C (upd H p.aM (.dK ks)) b { p with kvs := ks } { S with ord := o } :=
  { I with
    obj := by rw [upd_ne (ne_kinds I.obj I.hM (fun z => by cases z))]; exact I.obj
    hN := by rw [upd_ne (ne_kinds I.hN I.hM (fun z => by cases z))]; exact I.hN
    tN := tups_off I.tN I.hM (fun _ z => by cases z)
    hV := by rw [upd_ne (ne_kinds I.hV I.hM (fun z => by cases z))]; exact I.hV
    tV := tups_off I.tV I.hM (fun _ z => by cases z)
    hH := by rw [upd_ne (ne_kinds I.hH I.hM (fun z => by cases z))]; exact I.hH
    tH := fun x m => by rw [upd_ne (ne_kinds (I.tH x m) I.hM (fun z => by cases z))]; exact I.tH x m
    hM := upd_same
    eM := e
    hR := by rw [upd_ne (ne_kinds I.hR I.hM (fun z => by cases z))]; exact I.hR
    hK := by rw [upd_ne (ne_kinds I.hK I.hM (fun z => by cases z))]; exact I.hK
    tK := keys_off I.tK I.hM (fun _ z => by cases z)
    hQ := by rw [upd_ne (Ne.symm I.dMQ)]; exact I.hQ
    tQ := fun x m => by rw [upd_ne (ne_kinds (I.tQ x m) I.hM (fun z => by cases z))]; exact I.tQ x m
    rQ := fun x m y my => ⟨tup_off (I.rQ x m y my).1 I.hM (fun _ z => by cases z), tup_off (I.rQ x m y my).2 I.hM (fun _ z => by cases z)⟩ }
/-- one value of the object is put anew: a field that holds a new object -/
theorem BoardIn.field (I : BoardIn P w C H b p S) {d : Addr} {o : HO} (hd : H d = none) {f : Str} {v u : V} (hf : p.fs.lookup f = some u) :
    (upd (upd H d o) b (.ins C p.dx (putF f v p.fs)) b = some (.ins C p.dx (putF f v p.fs))) ∧ (putF f v p.fs).length ≤ 900 ∧ (∀ x u, H x = some u → x ≠ b → upd (upd H d o) b (.ins C p.dx (putF f v p.fs)) x = some u) ∧ upd (upd H d o) b (.ins C p.dx (putF f v p.fs)) d = some o := by
  have db : d ≠ b := fun z => by rw [z, I.obj] at hd; cases hd
  refine ⟨upd_same, by rw [put_len _ _ _ hf]; exact I.few, fun x u e n => ?_, ?_⟩
  · rw [upd_ne n, upd_ne (fun z => by rw [z, hd] at e; cases e)]
    exact e
  · rw [upd_ne db, upd_same]
/-- a new dict for the marks -/
theorem BoardIn.fresh (I : BoardIn P w C H b p S) {d : Addr} (hd : H d = none) : BoardIn P w C (upd (upd H d (.dK [])) b (.ins C p.dx (putF "marked" (.ref d) p.fs))) b { p with fs := putF "marked" (.ref d) p.fs, aM := d, kvs := [] } { S with ord := [] } :=
  have ⟨z1, z2, z3, z4⟩ := I.field (o := .dK []) (v := .ref d) hd I.fM
  { I with
    obj := z1
    few := z2
    fp := by rw [lookup_putF, if_neg (by decide)]; exact I.fp
    fe := by rw [lookup_putF, if_neg (by decide)]; exact I.fe
    fk := by rw [lookup_putF, if_neg (by decide)]; exact I.fk
    fa := by rw [lookup_putF, if_neg (by decide)]; exact I.fa
    fN := by rw [lookup_putF, if_neg (by decide)]; exact I.fN
    fV := by rw [lookup_putF, if_neg (by decide)]; exact I.fV
    fH := by rw [lookup_putF, if_neg (by decide)]; exact I.fH
    fM := by rw [lookup_putF, if_pos rfl]
    fR := by rw [lookup_putF, if_neg (by decide)]; exact I.fR
    fK := by rw [lookup_putF, if_neg (by decide)]; exact I.fK
    fQ := by rw [lookup_putF, if_neg (by decide)]; exact I.fQ
    hN := z3 _ _ I.hN (ne_kinds I.hN I.obj (fun z => by cases z))
    tN := fun q m => z3 _ _ (I.tN q m) (ne_kinds (I.tN q m) I.obj (fun z => by cases z))
    hV := z3 _ _ I.hV (ne_kinds I.hV I.obj (fun z => by cases z))
    tV := fun q m => z3 _ _ (I.tV q m) (ne_kinds (I.tV q m) I.obj (fun z => by cases z))
    hH := z3 _ _ I.hH (ne_kinds I.hH I.obj (fun z => by cases z))
    tH := fun x m => z3 _ _ (I.tH x m) (ne_kinds (I.tH x m) I.obj (fun z => by cases z))
    hM := z4
    eM := rfl
    hR := z3 _ _ I.hR (ne_kinds I.hR I.obj (fun z => by cases z))
    hK := z3 _ _ I.hK (ne_kinds I.hK I.obj (fun z => by cases z))
    tK := I.tK.mono fun x vs e => z3 _ _ e (ne_kinds e I.obj (fun z => by cases z))
    hQ := z3 _ _ I.hQ (ne_kinds I.hQ I.obj (fun z => by cases z))
    tQ := fun x m => z3 _ _ (I.tQ x m) (ne_kinds (I.tQ x m) I.obj (fun z => by cases z))
    rQ := fun x m y my => ⟨z3 _ _ (I.rQ x m y my).1 (ne_kinds (I.rQ x m y my).1 I.obj (fun z => by cases z)), z3 _ _ (I.rQ x m y my).2 (ne_kinds (I.rQ x m y my).2 I.obj (fun z => by cases z))⟩
    dMQ := fun z => by have z : d = p.aQ := z; rw [z, I.hQ] at hd; cases hd }
/-- a new list for the rule -/
theorem BoardIn.newRule (I : BoardIn P w C H b p S) {d : Addr} {r : List Nat} (hd : H d = some (.lst (r.map fun x : Nat => V.int x))) (n : ∀ x ∈ p.own b, x ≠ d) : BoardIn P w C (upd H b (.ins C p.dx (putF "rule" (.ref d) p.fs))) b { p with fs := putF "rule" (.ref d) p.fs, aR := d } { S with rule := r } :=
  have db : d ≠ b := Ne.symm (n b (by unfold BP.own; simp))
  have z3 : ∀ {x : Addr} {u : HO}, H x = some u → x ≠ b → upd H b (.ins C p.dx (putF "rule" (.ref d) p.fs)) x = some u := fun e m => by rw [upd_ne m]; exact e
  { I with
    obj := upd_same
    few := by rw [put_len _ _ _ I.fR]; exact I.few
    fp := by rw [lookup_putF, if_neg (by decide)]; exact I.fp
    fe := by rw [lookup_putF, if_neg (by decide)]; exact I.fe
    fk := by rw [lookup_putF, if_neg (by decide)]; exact I.fk
    fa := by rw [lookup_putF, if_neg (by decide)]; exact I.fa
    fN := by rw [lookup_putF, if_neg (by decide)]; exact I.fN
    fV := by rw [lookup_putF, if_neg (by decide)]; exact I.fV
    fH := by rw [lookup_putF, if_neg (by decide)]; exact I.fH
    fM := by rw [lookup_putF, if_neg (by decide)]; exact I.fM
    fR := by rw [lookup_putF, if_pos rfl]
    fK := by rw [lookup_putF, if_neg (by decide)]; exact I.fK
    fQ := by rw [lookup_putF, if_neg (by decide)]; exact I.fQ
    hN := z3 I.hN (ne_kinds I.hN I.obj (fun z => by cases z))
    tN := fun q m => z3 (I.tN q m) (ne_kinds (I.tN q m) I.obj (fun z => by cases z))
    hV := z3 I.hV (ne_kinds I.hV I.obj (fun z => by cases z))
    tV := fun q m => z3 (I.tV q m) (ne_kinds (I.tV q m) I.obj (fun z => by cases z))
    hH := z3 I.hH (ne_kinds I.hH I.obj (fun z => by cases z))
    tH := fun x m => z3 (I.tH x m) (ne_kinds (I.tH x m) I.obj (fun z => by cases z))
    hM := z3 I.hM (ne_kinds I.hM I.obj (fun z => by cases z))
    hR := z3 hd db
    hK := z3 I.hK (ne_kinds I.hK I.obj (fun z => by cases z))
    tK := I.tK.mono fun x vs e => z3 e (ne_kinds e I.obj (fun z => by cases z))
    hQ := z3 I.hQ (ne_kinds I.hQ I.obj (fun z => by cases z))
    tQ := fun x m => z3 (I.tQ x m) (ne_kinds (I.tQ x m) I.obj (fun z => by cases z))
    rQ := fun x m y my => ⟨z3 (I.rQ x m y my).1 (ne_kinds (I.rQ x m y my).1 I.obj (fun z => by cases z)), z3 (I.rQ x m y my).2 (ne_kinds (I.rQ x m y my).2 I.obj (fun z => by cases z))⟩
    dis := fun x m => n x (by
      unfold BP.own
      simp only [List.mem_cons] at m ⊢
      rcases m with rfl | rfl | rfl | m
      · simp
      · simp
      · simp
      · have m : x ∈ p.lists := m
        simp [m]) }
/-- what stands outside stands when one of its own is changed -/
theorem keeps_upd {H H' : Hp} {own : List Addr} {x : Addr} {o : HO} (k : Keeps H own H') (m : x ∈ own ∨ H x = none) : Keeps H own (upd H' x o) := fun y u e n => by
  rw [upd_ne (fun z => by
    subst z
    rcases m with m | m
    · exact n m
    · rw [m] at e; cases e)]
  exact k y u e n
end
/-! ### call_at -/
section
variable {P : Program} {w : World} {K : PySem.W.Frag} {mg : Str → Option Value} {base : Heap} {C : Addr}
abbrev sCAt : Stmt := top 59
def fAt (S : SB) (as : List Int) : SB × List Int := if 2 < a0 as then (S, [-22]) else ({ S with a := a0 as }, [(S.a : Int)])
def One0 (_ : SB) (as : List Int) : Prop := 0 < as.length ∧ 0 ≤ as.getD 0 0
theorem scCAt : FnScope ["board", "arguments", "moves", "before"] ["board", "arguments"] (defScope sCAt) := ⟨rfl, rfl, rfl, by decide +kernel, rfl, by decide +kernel, by decide +kernel⟩
theorem ok_cat {f : Addr} {fd : FuncData} (F : Fun K "call_at" "call_at" sCAt f fd) (T : Txt K mg C) (N : Nos mg) : FnOk P w K mg base CX0 1 f fd ["board", "arguments"] (spCall P w K C One0 fAt) := by
  obtain ⟨tk, gO⟩ := N.out
  refine F.ok scCAt (fun vs H Q E h => ?_) (fun cdv A outer s H vs Q E hr h => ?_)
  · obtain ⟨b, ar, own, S, as, rfl, _⟩ := h
    rfl
  · refine ⟨_, pss_cons (ps_set (i := 2) scCAt.nd rfl (Or.inl rfl) (pe_ix ix_list (pv 1) pe_int (fun _ _ => rfl)))
      (pss_cons (ps_if (pt_cmpR op_gt (pv 2) pe_int (nomark _)) (pss_one (ps_ret (pe_lst (pa_cons (pe_glob (v := .int (-22)) rfl gO ⟨_, rfl⟩) pa_nil)))) pss_nil)
      (pss_cons (ps_set (i := 3) scCAt.nd rfl (Or.inl rfl) (pe_fld (pv 0) rfl))
      (pss_cons (ps_fld (pv 0) (pv 2) rfl)
      (pss_one (ps_ret (pe_lst (pa_cons (pv 3) pa_nil))))))), ?_⟩
    obtain ⟨b, ar, own, S, as, rfl, B, ok, ha, har, ⟨h1, h2⟩, k⟩ := h
    obtain ⟨Y, I, eo⟩ := id B
    refine ⟨_, rfl, ar, _, _, _, rfl, rfl, ha, at_a0 h1 h2, _, rfl, _, _, rfl, rfl, _, rfl, ?_⟩
    have k1 := k
    unfold fAt at k1
    refine ite2 (fun c => ?_) (fun c => ?_)
    · have c : 2 < a0 as := by have := of_decide_eq_true c; omega
      rw [if_pos c] at k1
      exact ⟨by show 1 ≤ sizeLine; decide, fun q hq => call_pure B (same_new hq) hq upd_same k1⟩
    · have c : ¬ 2 < a0 as := fun z => c (decide_eq_true (by omega))
      rw [if_neg c] at k1
      refine ⟨_, rfl, b, C, Y.dx, Y.fs, _, rfl, I.obj, T.cl, T.nA, I.fa, _, rfl, _, rfl, b, C, Y.dx, Y.fs, rfl, I.obj, T.cl, T.nA, by have := I.few; omega, _, rfl, by show 1 ≤ sizeLine; decide, fun q hq => ?_⟩
      have B1 : Board P w C (upd H b (.ins C Y.dx (putF "moves" (.int (a0 as)) Y.fs))) b own { S with a := a0 as } := ⟨_, I.moves (a0 as), eo⟩
      have hb : b ∈ own := by rw [eo]; unfold BP.own; simp
      have K1 : Keeps H own (upd H b (.ins C Y.dx (putF "moves" (.int (a0 as)) Y.fs))) := keeps_upd (fun x o e _ => e) (.inl hb)
      have nq : H q = none := by
        by_cases z : q = b
        · subst z
          rw [upd_same] at hq
          cases hq
        · rw [upd_ne z] at hq
          exact hq
      refine k1 _ q own (B1.same (same_new hq)) (fun _ m => .inl m) (keeps_upd K1 (.inr nq)) upd_same nq (not_own B nq)
end
end RF

/-! ## RFCallsC -/
namespace RF
open PySem PySem.Spec PyProof.Rows L2
/-! ### the dict of marks -/
theorem keyN_inj {i j : Nat} (h : keyN i = keyN j) : i = j := by
  have := Sum.inl.inj h
  omega
theorem mark_in {kvs : List (Key × V)} {o : List Nat} (e : kvs.map (·.1) = o.map keyN) (i : Nat) : (valV kvs (keyN i)).isSome = decide (i ∈ o) := by
  rw [← valV_any, Bool.eq_iff_iff]
  simp only [List.any_eq_true, decide_eq_true_eq]
  constructor
  · rintro ⟨kv, m, ek⟩
    have : keyN i ∈ o.map keyN := by rw [← e, ← ek]; exact List.mem_map_of_mem m
    obtain ⟨j, mj, ej⟩ := List.mem_map.mp this
    rw [← keyN_inj ej]
    exact mj
  · intro m
    have : keyN i ∈ kvs.map (·.1) := by rw [e]; exact List.mem_map_of_mem m
    obtain ⟨kv, m2, ek⟩ := List.mem_map.mp this
    exact ⟨kv, m2, ek⟩
theorem mark_put {kvs : List (Key × V)} {o : List Nat} (e : kvs.map (·.1) = o.map keyN) {i : Nat} (n : i ∉ o) (v : V) : (putK kvs (keyN i) v).map (·.1) = (o ++ [i]).map keyN := by
  have c : (kvs.any fun kv => decide (kv.1 = keyN i)) = false := by
    rw [valV_any, mark_in e, decide_eq_false n]
  unfold putK
  rw [c, if_neg Bool.false_ne_true, List.map_append, List.map_append, e]
  rfl
theorem mark_drop {kvs : List (Key × V)} {o : List Nat} (e : kvs.map (·.1) = o.map keyN) (i : Nat) : (dropK kvs (keyN i)).map (·.1) = (o.filter fun j => decide (j ≠ i)).map keyN := by
  unfold dropK
  have h1 : (kvs.filter fun kv => decide (kv.1 ≠ keyN i)).map (·.1) = (kvs.map (·.1)).filter fun k => decide (k ≠ keyN i) := by
    rw [List.filter_map]; rfl
  rw [h1, e, List.filter_map]
  congr 1
  refine List.filter_congr fun j _ => ?_
  show decide (keyN j ≠ keyN i) = decide (j ≠ i)
  by_cases c : j = i
  · rw [c]; simp
  · rw [decide_eq_true c]
    exact decide_eq_true fun z => c (keyN_inj z)
theorem mark_len {kvs : List (Key × V)} {o : List Nat} (e : kvs.map (·.1) = o.map keyN) : kvs.length = o.length := by
  have := congrArg List.length e
  rw [List.length_map, List.length_map] at this
  exact this
theorem names_len {S : SB} (ok : SOk S) : S.names.length < 64 := by
  have h : S.names.length = ((rowsAt S.k S.n).filter (isName S.k)).length := (sortT_perm _).length_eq
  rw [h]
  exact few_at ⟨by have := ok.k.1; omega, by have := ok.k.2; omega⟩ (by have := ok.n.2; omega)
theorem pigeonN : ∀ (n : Nat) (o : List Nat), o.Nodup → (∀ i ∈ o, i < n) → o.length ≤ n
  | 0, [], _, _ => Nat.le_refl _
  | 0, a :: _, _, h => absurd (h a List.mem_cons_self) (Nat.not_lt_zero _)
  | n + 1, o, nd, h => by
    have k := pigeonN n (o.erase n) (nd.sublist List.erase_sublist) fun i m => by
      have mi : i ∈ o := List.mem_of_mem_erase m
      have ne : i ≠ n := fun z => by
        subst z
        exact (List.Nodup.not_mem_erase nd) m
      have := h i mi
      omega
    by_cases c : n ∈ o
    · have := List.length_erase_of_mem c
      omega
    · rw [List.erase_of_not_mem c] at k
      omega
theorem ord_len {S : SB} (ok : SOk S) : S.ord.length < 64 := Nat.lt_of_le_of_lt (pigeonN _ _ ok.nd ok.lt) (names_len ok)
/-- the end of a call that changed the object: a new list is answered -/
theorem call_done {P : Program} {w : World} {C : Addr} {H H1 : Hp} {b q : Addr} {own own1 : List Addr} {S1 : SB} {ans : List Int} {Q : VK} (B1 : Board P w C H1 b own1 S1) (sub : ∀ x ∈ own1, x ∈ own ∨ H x = none) (K1 : Keeps H own H1) (tr : ∀ x ∈ own, H1 x ≠ none) (hq : H1 q = none)
    (k : ∀ (H' : Hp) (q : Addr) (own' : List Addr), Board P w C H' b own' S1 → (∀ x ∈ own', x ∈ own ∨ H x = none) → Keeps H own H' → H' q = some (.lst (ans.map V.int)) → H q = none → q ∉ own' → Q (.ref q) H') : Q (.ref q) (upd H1 q (.lst (ans.map V.int))) := by
  have nq : H q = none := by
    cases e : H q with
    | none => rfl
    | some o =>
      by_cases m : q ∈ own
      · exact absurd hq (tr q m)
      · rw [K1 q o e m] at hq
        cases hq
  exact k _ q own1 (B1.same (same_new hq)) sub (keeps_upd K1 (.inr nq)) upd_same nq (not_own B1 hq)
theorem still {H : Hp} {own : List Addr} {x : Addr} {o : HO} (h : ∀ y ∈ own, H y ≠ none) : ∀ y ∈ own, upd H x o y ≠ none := fun y m => by
  by_cases z : y = x
  · rw [z, upd_same]; exact fun w => by cases w
  · rw [upd_ne z]; exact h y m
theorem Board.stand {P : Program} {w : World} {C : Addr} {H : Hp} {b : Addr} {own : List Addr} {S : SB} (B : Board P w C H b own S) : ∀ x ∈ own, H x ≠ none := fun x m e => by
  obtain ⟨o, z⟩ := B.live x m
  rw [e] at z
  cases z
section
variable {P : Program} {w : World} {K : PySem.W.Frag} {mg : Str → Option Value} {base : Heap} {C : Addr}
/-! ### call_mark -/
abbrev sCMark : Stmt := top 65
def fMark (S : SB) (as : List Int) : SB × List Int := if a0 as ∈ S.ord then (S, [-17]) else ({ S with ord := S.ord ++ [a0 as] }, [((S.ord.length + 1 : Nat) : Int)])
theorem scCMark : FnScope ["board", "arguments", "number"] ["board", "arguments"] (defScope sCMark) := ⟨rfl, rfl, rfl, by decide +kernel, rfl, by decide +kernel, by decide +kernel⟩
theorem ok_cmark {f : Addr} {fd : FuncData} (F : Fun K "call_mark" "call_mark" sCMark f fd) (O : Own mg) (T : Txt K mg C) (N : Nos mg) : FnOk P w K mg base CX0 1 f fd ["board", "arguments"] (spCall P w K C (Names0 fun S => S.names.length) fMark) := by
  obtain ⟨tk, gO⟩ := N.again
  refine F.ok scCMark (fun vs H Q E h => ?_) (fun cdv A outer s H vs Q E hr h => ?_)
  · obtain ⟨b, ar, own, S, as, rfl, _⟩ := h
    rfl
  · refine ⟨_, pss_cons (ps_set (i := 2) scCMark.nd rfl (Or.inl rfl) (pe_ix ix_list (pv 1) pe_int (fun _ _ => rfl)))
      (pss_cons (ps_if (pt_cmp (pc_din (hu_of hr) (pv 2) (pe_fld (pv 0) rfl))) (pss_one (ps_ret (pe_lst (pa_cons (pe_glob (v := .int (-17)) rfl gO ⟨_, rfl⟩) pa_nil)))) pss_nil)
      (pss_cons (ps_dput (hu_of hr) (pe_fld (pv 0) rfl) (pv 2) pe_bl rfl)
      (pss_one (ps_ret (pe_lst (pa_cons (pe_callB call_lenD (by rfl) O.len PySem.boot_len (pa_cons (pe_fld (pv 0) rfl) pa_nil)) pa_nil)))))), ?_⟩
    obtain ⟨b, ar, own, S, as, rfl, B, ok, ha, har, ⟨h1, h2, h3⟩, k⟩ := h
    obtain ⟨Y, I, eo⟩ := id B
    have len := mark_len I.eM
    have few := ord_len ok
    have big : (64 : Nat) < sizeLine := by decide
    refine ⟨_, rfl, ar, _, _, _, rfl, rfl, ha, at_a0 h1 h2, _, rfl, _, rfl, b, C, Y.dx, Y.fs, _, rfl, I.obj, T.cl, T.nM, I.fM, Y.aM, _, rfl, DGet.k (k := keyN (a0 as)) I.hM, _, rfl, ?_⟩
    rw [mark_in I.eM]
    have k1 := k
    unfold fMark at k1
    by_cases c : a0 as ∈ S.ord
    · rw [if_pos c] at k1
      rw [decide_eq_true c]
      exact iteT ⟨by show 1 ≤ sizeLine; decide, fun q hq => call_pure B (same_new hq) hq upd_same k1⟩
    · rw [if_neg c] at k1
      rw [decide_eq_false c]
      have e1 := mark_put I.eM c (V.bl true)
      have I1 := I.marks e1
      refine iteF ⟨_, rfl, b, C, Y.dx, Y.fs, _, rfl, I.obj, T.cl, T.nM, I.fM, _, rfl, Y.aM, _, rfl, DPut.k (k := keyN (a0 as)) I.hM (by omega), ?_⟩
      refine ⟨_, rfl, b, C, Y.dx, Y.fs, _, rfl, I1.obj, T.cl, T.nM, I1.fM, Y.aM, _, rfl, I1.hM, by show 1 ≤ sizeLine; decide, fun q hq => ?_⟩
      have am : Y.aM ∈ own := by rw [eo]; unfold BP.own; simp
      have lp := mark_len e1
      rw [List.length_append] at lp
      have z := call_done (own := own) (ans := [((S.ord.length + 1 : Nat) : Int)]) ⟨_, I1, eo⟩ (fun _ m => .inl m) (keeps_upd (fun x o e _ => e) (.inl am)) (still B.stand) hq k1
      rw [lp]
      exact z
/-! ### call_unmark -/
abbrev sCUn : Stmt := top 66
def fUn (S : SB) (as : List Int) : SB × List Int := if a0 as ∈ S.ord then ({ S with ord := S.ord.filter fun j => decide (j ≠ a0 as) }, [((S.ord.filter fun j => decide (j ≠ a0 as)).length : Int)]) else (S, [-6])
theorem scCUn : FnScope ["board", "arguments", "number"] ["board", "arguments"] (defScope sCUn) := ⟨rfl, rfl, rfl, by decide +kernel, rfl, by decide +kernel, by decide +kernel⟩
theorem ok_cun {f : Addr} {fd : FuncData} (F : Fun K "call_unmark" "call_unmark" sCUn f fd) (O : Own mg) (T : Txt K mg C) (N : Nos mg) : FnOk P w K mg base CX0 1 f fd ["board", "arguments"] (spCall P w K C (Names0 fun S => S.names.length) fUn) := by
  obtain ⟨tk, gO⟩ := N.notM
  refine F.ok scCUn (fun vs H Q E h => ?_) (fun cdv A outer s H vs Q E hr h => ?_)
  · obtain ⟨b, ar, own, S, as, rfl, _⟩ := h
    rfl
  · refine ⟨_, pss_cons (ps_set (i := 2) scCUn.nd rfl (Or.inl rfl) (pe_ix ix_list (pv 1) pe_int (fun _ _ => rfl)))
      (pss_cons (ps_if (pt_cmp (pc_dnotin (hu_of hr) (pv 2) (pe_fld (pv 0) rfl))) (pss_one (ps_ret (pe_lst (pa_cons (pe_glob (v := .int (-6)) rfl gO ⟨_, rfl⟩) pa_nil)))) pss_nil)
      (pss_cons (ps_expr (pe_dpop1 (pe_fld (pv 0) rfl) (pv 2) ⟨rfl, rfl, rfl, rfl⟩))
      (pss_one (ps_ret (pe_lst (pa_cons (pe_callB call_lenD (by rfl) O.len PySem.boot_len (pa_cons (pe_fld (pv 0) rfl) pa_nil)) pa_nil)))))), ?_⟩
    obtain ⟨b, ar, own, S, as, rfl, B, ok, ha, har, ⟨h1, h2, h3⟩, k⟩ := h
    obtain ⟨Y, I, eo⟩ := id B
    refine ⟨_, rfl, ar, _, _, _, rfl, rfl, ha, at_a0 h1 h2, _, rfl, _, rfl, b, C, Y.dx, Y.fs, _, rfl, I.obj, T.cl, T.nM, I.fM, Y.aM, _, rfl, DGet.k (k := keyN (a0 as)) I.hM, _, rfl, ?_⟩
    have there := mark_in I.eM (a0 as)
    rw [there]
    have k1 := k
    unfold fUn at k1
    by_cases c : a0 as ∈ S.ord
    · rw [if_pos c] at k1
      rw [decide_eq_true c] at there ⊢
      obtain ⟨v, ev⟩ := Option.isSome_iff_exists.mp there
      have e1 := mark_drop I.eM (a0 as)
      have I1 := I.marks e1
      refine iteF ⟨_, rfl, b, C, Y.dx, Y.fs, _, rfl, I.obj, T.cl, T.nM, I.fM, Y.aM, rfl, .inl ⟨_, .inl I.hM⟩, _, rfl, Y.kvs, keyN (a0 as), v, I.hM, rfl, ev, ?_⟩
      refine ⟨_, rfl, b, C, Y.dx, Y.fs, _, rfl, I1.obj, T.cl, T.nM, I1.fM, Y.aM, _, rfl, I1.hM, by show 1 ≤ sizeLine; decide, fun q hq => ?_⟩
      have am : Y.aM ∈ own := by rw [eo]; unfold BP.own; simp
      have z := call_done (own := own) (ans := [((S.ord.filter fun j => decide (j ≠ a0 as)).length : Int)]) ⟨_, I1, eo⟩ (fun _ m => .inl m) (keeps_upd (fun x o e _ => e) (.inl am)) (still B.stand) hq k1
      rw [mark_len e1]
      exact z
    · rw [if_neg c] at k1
      rw [decide_eq_false c]
      exact iteT ⟨by show 1 ≤ sizeLine; decide, fun q hq => call_pure B (same_new hq) hq upd_same k1⟩
end
end RF

/-! ## RFCallsD -/
namespace RF
open PySem PySem.Spec PyProof.Rows L2
/-! ### numbers, rising -/
def risen (m : Nat) (o : List Nat) : List Nat := (List.range m).filter fun i => decide (i ∈ o)
theorem risen_perm {m : Nat} {o : List Nat} (nd : o.Nodup) (lt : ∀ i ∈ o, i < m) : (risen m o).Perm o := by
  unfold risen
  refine (List.perm_ext_iff_of_nodup (List.nodup_range.sublist List.filter_sublist) nd).mpr fun a => ?_
  rw [List.mem_filter, List.mem_range]
  constructor
  · exact fun h => of_decide_eq_true h.2
  · exact fun h => ⟨lt a h, decide_eq_true h⟩
theorem risen_is {m : Nat} {o : List Nat} (nd : o.Nodup) (lt : ∀ i ∈ o, i < m) {ys : List Int} (p : ys.Perm (zN o)) (h : ys.Pairwise (· ≤ ·)) : ys = zN (risen m o) := by
  refine List.Perm.eq_of_pairwise (le := (· ≤ ·)) (fun a b _ _ h1 h2 => Int.le_antisymm h1 h2) h ?_ (p.trans ((risen_perm nd lt).map _).symm)
  unfold zN risen
  rw [List.pairwise_map]
  refine List.Pairwise.imp (R := (· < ·)) (fun {a b} z => by show (a : Int) ≤ (b : Int); omega) ?_
  exact List.Pairwise.sublist List.filter_sublist List.pairwise_lt_range
section
variable {P : Program} {w : World} {K : PySem.W.Frag} {mg : Str → Option Value} {base : Heap} {C : Addr}
/-! ### call_marks -/
abbrev sCMarks : Stmt := top 68
def fMarks (S : SB) (_ : List Int) : SB × List Int := (S, (S.ord.length : Int) :: zN (risen S.names.length S.ord))
theorem scCMarks : FnScope ["board", "arguments"] ["board", "arguments"] (defScope sCMarks) := ⟨rfl, rfl, rfl, by decide +kernel, rfl, by decide +kernel, by decide +kernel⟩
theorem ok_cmarks {f fC : Addr} {fd fdC : FuncData} (F : Fun K "call_marks" "call_marks" sCMarks f fd) (O : Own mg) (T : Txt K mg C) (N : Def P w K mg base 1 "counted" ["numbers"] spCounted fC fdC) :
    FnOk P w K mg base CX0 2 f fd ["board", "arguments"] (spCall P w K C (fun _ _ => True) fMarks) := by
  refine F.ok scCMarks (fun vs H Q E h => ?_) (fun cdv A outer s H vs Q E hr h => ?_)
  · obtain ⟨b, ar, own, S, as, rfl, _⟩ := h
    rfl
  · refine ⟨_, pss_one (ps_ret (pe_call N.ok hr rfl N.g N.kp N.b .nil pass0 (pa_cons (pe_callB (call_sortedDI rfl) (by rfl) O.sorted (by decide +kernel) (pa_cons (pe_fld (pv 0) rfl) pa_nil)) pa_nil))), ?_⟩
    obtain ⟨b, ar, own, S, as, rfl, B, ok, ha, har, _, k⟩ := h
    obtain ⟨Y, I, eo⟩ := id B
    have few := ord_len ok
    refine ⟨_, rfl, b, C, Y.dx, Y.fs, _, rfl, I.obj, T.cl, T.nM, I.fM, Y.aM, Y.kvs, zN S.ord, rfl, .inl I.hM, ?_, by unfold zN; rw [List.length_map]; exact few, fun ys p hp hs hn => ?_⟩
    · rw [I.eM]
      unfold zN
      rw [List.map_map]
      rfl
    · have ey := risen_is ok.nd ok.lt hp hs
      have ly : ys.length = S.ord.length := by rw [hp.length_eq]; unfold zN; rw [List.length_map]
      refine ⟨p, ys, rfl, upd_same, by omega, fun H' q s' n' e' => ?_⟩
      refine call_pure B ((same_new hn).trans s') ((same_new hn).free n') ?_ k
      rw [e', ly, ey]
      rfl
/-! ### all_apart -/
abbrev sApart : Stmt := top 11
def allApart (ns : List Int) : Bool := ns.all (fun x => decide (x ≤ 1)) && ns.any fun x => decide (x = 1)
def spApart (K : PySem.W.Frag) : Sp := fun vs H Q _ => ∃ (a : Addr) (ns : List Int), vs = [.ref a] ∧ SqT K H a (ns.map V.int) ∧ 0 < ns.length ∧ Q (.bl (allApart ns)) H
theorem scApart : FnScope ["ring"] ["ring"] (defScope sApart) := ⟨rfl, rfl, rfl, by decide +kernel, rfl, by decide +kernel, by decide +kernel⟩
theorem ok_apart {f : Addr} {fd : FuncData} (F : Fun K "all_apart" "all_apart" sApart f fd) (O : Own mg) : FnOk P w K mg base CX0 1 f fd ["ring"] (spApart K) := by
  refine F.ok scApart (fun vs H Q E h => ?_) (fun cdv A outer s H vs Q E hr h => ?_)
  · obtain ⟨a, ns, rfl, _⟩ := h
    rfl
  · refine ⟨_, pss_one (ps_ret (pe_cmpR op_eq (pe_callB (cr_maxT rfl) (by rfl) O.max (by decide +kernel) (pa_cons (pv 0) pa_nil)) pe_int (nomark _))), ?_⟩
    obtain ⟨a, ns, rfl, ha, pos, k⟩ := h
    refine ⟨_, rfl, a, ns, rfl, ha, pos, fun m hm hmax => ⟨rfl, ?_⟩⟩
    have e : decide (V.int m = V.int 1) = allApart ns := by
      rw [dec_int, Bool.eq_iff_iff]
      unfold allApart
      simp only [beq_iff_eq, Bool.and_eq_true, List.all_eq_true, List.any_eq_true, decide_eq_true_eq]
      constructor
      · rintro rfl
        exact ⟨fun x hx => hmax x hx, _, hm, rfl⟩
      · rintro ⟨h1, x, hx, rfl⟩
        have := h1 m hm
        have := hmax 1 hx
        omega
    rw [e]
    exact k
/-! ### call_markapart -/
abbrev sCApart : Stmt := top 67
def apartUp (nss : List (List Int)) (i : Nat) : List Nat := (List.range i).filter fun j => allApart (nss.getD j [])
def fApart (S : SB) (_ : List Int) : SB × List Int := ({ S with ord := apartUp S.names S.names.length }, [((apartUp S.names S.names.length).length : Int)])
theorem apart_up (nss : List (List Int)) (i : Nat) : apartUp nss (i + 1) = if allApart (nss.getD i []) then apartUp nss i ++ [i] else apartUp nss i := by
  unfold apartUp
  rw [List.range_succ, List.filter_append]
  rw [List.filter_cons, List.filter_nil]
  split
  · rfl
  · rw [List.append_nil]
theorem apart_lt {nss : List (List Int)} {i j : Nat} (h : j ∈ apartUp nss i) : j < i := List.mem_range.mp (List.mem_filter.mp h).1
theorem scCApart : FnScope ["board", "arguments", "number", "ring"] ["board", "arguments"] (defScope sCApart) := ⟨rfl, rfl, rfl, by decide +kernel, rfl, by decide +kernel, by decide +kernel⟩
theorem ok_capart {f fA : Addr} {fd fdA : FuncData} (F : Fun K "call_markapart" "call_markapart" sCApart f fd) (O : Own mg) (T : Txt K mg C) (N : Def P w K mg base 1 "all_apart" ["ring"] (spApart K) fA fdA) (short : ∀ S : SB, SOk S → ∀ r ∈ S.names, 0 < r.length) :
    FnOk P w K mg base CX0 2 f fd ["board", "arguments"] (spCall P w K C (fun _ _ => True) fApart) := by
  refine F.ok scCApart (fun vs H Q E h => ?_) (fun cdv A outer s H vs Q E hr h => ?_)
  · obtain ⟨b, ar, own, S, as, rfl, _⟩ := h
    rfl
  · refine ⟨_, pss_cons (ps_fld (pv 0) pe_dnewK rfl)
      (pss_cons (ps_for PassesOwn.never rfl (pi_enum (by rfl) O.enumerate (pa_cons (pe_fld (pv 0) rfl) pa_nil)) (pg_tup rfl (pgs_cons (pg_name (i := 2) scCApart.nd rfl (Or.inl rfl)) (pgs_cons (pg_name (i := 3) scCApart.nd rfl (Or.inl rfl)) pgs_nil)))
        (pss_one (ps_if (pt_val (pe_call N.ok hr rfl N.g N.kp N.b .nil pass0 (pa_cons (pv 3) pa_nil))) (pss_one (ps_dput (hu_of hr) (pe_fld (pv 0) rfl) (pv 2) pe_bl rfl)) pss_nil)))
      (pss_one (ps_ret (pe_lst (pa_cons (pe_callB call_lenD (by rfl) O.len PySem.boot_len (pa_cons (pe_fld (pv 0) rfl) pa_nil)) pa_nil))))), ?_⟩
    obtain ⟨b, ar, own, S, as, rfl, B, ok, ha, har, _, k⟩ := h
    obtain ⟨Y, I, eo⟩ := id B
    intro d hd
    have bo : b ∈ own := by rw [eo]; unfold BP.own; simp
    have few := names_len ok
    have big : (64 : Nat) < sizeLine := by decide
    have off : ∀ {x : Addr} {o : HO}, H x = some o → x ≠ d := fun e z => by rw [z, hd] at e; cases e
    have I0 := I.fresh hd
    have K0 : Keeps H own (upd (upd H d (.dK [])) b (.ins C Y.dx (putF "marked" (.ref d) Y.fs))) := keeps_upd (keeps_upd (fun x o e _ => e) (.inr hd)) (.inl bo)
    refine ⟨_, rfl, b, C, Y.dx, Y.fs, rfl, by rw [upd_ne (off I.obj)]; exact I.obj, T.cl, T.nM, by have := I.few; omega, ?_⟩
    refine ⟨_, rfl, b, C, Y.dx, _, _, rfl, I0.obj, T.cl, T.nN, I0.fN, Y.aN, _, rfl, SqL.of I0.hN, ?_⟩
    refine for_it (walk_enum (K := K) (a := Y.aN) (xs := refs Y.LN)) (fun i σ H' => ∃ (u v : Option V) (ks : List (Key × V)), σ = [some (.ref b), some (.ref ar), u, v] ∧ BoardIn P w C H' b { Y with fs := putF "marked" (.ref d) Y.fs, aM := d, kvs := ks } { S with ord := apartUp S.names i } ∧ Keeps H own H' ∧ ∀ x ∈ own, H' x ≠ none)
      ⟨none, none, [], rfl, I0, K0, still (still B.stand)⟩ (fun i σ H' _ ⟨_, _, _, _, J, _⟩ => SqL.of J.hN) ?_ ?_
    · rintro i x σ H1 H2 hi ⟨u, v, ks, rfl, J, K1, S1⟩ ⟨t, x1, x2, rfl, ht, rfl, e1, e2⟩
      cases Option.some.inj e1
      obtain ⟨p, pi, rfl⟩ := refs_get e2
      have pm : p ∈ Y.LN := List.mem_of_getElem? pi
      have pg : S.names.getD i [] = p.2 := by rw [← I.eN, List.getD_eq_getElem?_getD, List.getElem?_map, pi]; rfl
      have pin : p.2 ∈ S.names := by rw [← I.eN]; exact List.mem_map_of_mem pm
      have hi2 : i < S.names.length := by rw [← snd_len I.eN, ← refs_len]; exact hi
      have J1 : BoardIn P w C (upd H1 t (.tup [V.int (i : Nat), V.ref p.1])) b { Y with fs := putF "marked" (.ref d) Y.fs, aM := d, kvs := ks } { S with ord := apartUp S.names i } := by
        exact J.same (same_new ht)
      have nt : H t = none ∨ t ∈ own := by
        by_cases m : t ∈ own
        · exact .inr m
        · cases e : H t with
          | none => exact .inl rfl
          | some o => rw [K1 t o e m] at ht; cases ht
      have K2 : Keeps H own (upd H1 t (.tup [V.int (i : Nat), V.ref p.1])) := keeps_upd K1 nt.symm
      refine ⟨t, _, rfl, SqT.of upd_same, rfl, _, _, rfl, _, _, rfl, rfl, ?_⟩
      refine ⟨_, rfl, p.1, p.2, rfl, SqT.of (J1.tN p pm), short S ok _ pin, _, rfl, ?_⟩
      have up := apart_up S.names i
      rw [pg] at up
      cases c : allApart p.2 with
      | true =>
        rw [c, if_pos rfl] at up
        have nin : i ∉ apartUp S.names i := fun m => Nat.lt_irrefl _ (apart_lt m)
        have l1 := mark_len J.eM
        have l2 : (apartUp S.names i).length ≤ i := by unfold apartUp; exact Nat.le_trans (List.length_filter_le _ _) (by rw [List.length_range]; exact Nat.le_refl _)
        have l3 : ks.length ≤ i := Nat.le_trans (Nat.le_of_eq l1) l2
        refine iteT ⟨_, rfl, b, C, Y.dx, _, _, rfl, J1.obj, T.cl, T.nM, J1.fM, _, rfl, d, _, rfl, DPut.k (k := keyN i) J1.hM (show ks.length < sizeLine by omega), ?_⟩
        refine ⟨_, _, putK ks (keyN i) (V.bl true), rfl, ?_, keeps_upd K2 (.inr hd), still (still S1)⟩
        rw [up]
        exact J1.marks (mark_put J1.eM nin _)
      | false =>
        rw [c, if_neg Bool.false_ne_true] at up
        refine iteF ⟨_, _, ks, rfl, ?_, K2, still S1⟩
        rw [up]
        exact J1
    · rintro σ H1 ⟨u, v, ks, rfl, J, K1, S1⟩
      rw [refs_len, snd_len I.eN] at J
      refine ⟨_, rfl, b, C, Y.dx, _, _, rfl, J.obj, T.cl, T.nM, J.fM, d, _, rfl, J.hM, by show 1 ≤ sizeLine; decide, fun q hq => ?_⟩
      have z := call_done (own := own) (ans := [((apartUp S.names S.names.length).length : Int)]) ⟨_, J, rfl⟩ (fun x m => ?_) K1 S1 hq k
      · rw [mark_len J.eM]
        exact z
      · rw [eo]
        unfold BP.own BP.lists at m ⊢
        simp only [List.mem_cons] at m ⊢
        rcases m with h | h | h | h | h | h | h | h | h
        · exact .inl (.inl h)
        · exact .inl (.inr (.inl h))
        · exact .inl (.inr (.inr (.inl h)))
        · exact .inl (.inr (.inr (.inr (.inl h))))
        · rw [h]; exact .inr hd
        · exact .inl (.inr (.inr (.inr (.inr (.inr (.inl h))))))
        · exact .inl (.inr (.inr (.inr (.inr (.inr (.inr (.inl h)))))))
        · exact .inl (.inr (.inr (.inr (.inr (.inr (.inr (.inr (.inl h))))))))
        · exact .inl (.inr (.inr (.inr (.inr (.inr (.inr (.inr (.inr h))))))))
end
end RF

/-! ## RFCallsE -/
namespace RF
open PySem PySem.Spec PyProof.Rows L2
section
variable {P : Program} {w : World} {K : PySem.W.Frag} {mg : Str → Option Value} {base : Heap} {C : Addr}
/-! ### most_told -/
abbrev sMost : Stmt := top 15
def spMost (K : PySem.W.Frag) : Sp := fun vs H Q _ => ∃ (a : Addr) (ns : List Int), vs = [.ref a] ∧ SqT K H a (ns.map V.int) ∧ 0 < ns.length ∧ ns.length ≤ 100 ∧ ∀ H' : Hp, Same H H' → Q (.int (mostTold ns : Nat)) H'
theorem scMost : FnScope ["view"] ["view"] (defScope sMost) := ⟨rfl, rfl, rfl, by decide +kernel, rfl, by decide +kernel, by decide +kernel⟩
theorem ok_most {f fE : Addr} {fd fdE : FuncData} (F : Fun K "most_told" "most_told" sMost f fd) (N : Def P w K mg base 2 "even_handed" ["row"] (spEven K) fE fdE) : FnOk P w K mg base CX0 3 f fd ["view"] (spMost K) := by
  refine F.ok scMost (fun vs H Q E h => ?_) (fun cdv A outer s H vs Q E hr h => ?_)
  · obtain ⟨a, ns, rfl, _⟩ := h
    rfl
  · refine ⟨_, pss_one (ps_ret (pe_ifExp (pt_val (pe_call N.ok hr rfl N.g N.kp N.b .nil pass0 (pa_cons (pv 0) pa_nil))) pe_int pe_int)), ?_⟩
    obtain ⟨a, ns, rfl, ha, p1, p2, k⟩ := h
    refine ⟨_, rfl, a, ns, rfl, ha, p1, p2, fun H1 s1 => ⟨_, rfl, ?_⟩⟩
    have k1 := k H1 s1
    unfold mostTold at k1
    cases c : evenHanded ns with
    | true => rw [c, if_pos rfl] at k1; exact iteT k1
    | false => rw [c, if_neg Bool.false_ne_true] at k1; exact iteF k1
/-! ### how_many_rules, call_rules -/
abbrev sHow : Stmt := top 16
def rulesUp (vs : List (List Int)) : Nat := vs.foldl (fun r v => r * (mostTold v + 1)) 1
theorem most_le (v : List Int) : mostTold v ≤ 2 := by unfold mostTold; split <;> decide
def spHow (P : Program) (w : World) (C : Addr) : Sp := fun vs H Q _ => ∃ (b : Addr) (own : List Addr) (S : SB), vs = [.ref b] ∧ Board P w C H b own S ∧ SOk S ∧ ∀ H' : Hp, Same H H' → Q (.int (rulesUp S.views : Nat)) H'
theorem scHow : FnScope ["board", "rules", "view"] ["board"] (defScope sHow) := ⟨rfl, rfl, rfl, by decide +kernel, rfl, by decide +kernel, by decide +kernel⟩
theorem ok_how {f fM : Addr} {fd fdM : FuncData} (F : Fun K "how_many_rules" "how_many_rules" sHow f fd) (T : Txt K mg C) (N : Def P w K mg base 3 "most_told" ["view"] (spMost K) fM fdM) (short : ∀ S : SB, SOk S → ∀ r ∈ S.views, 0 < r.length ∧ r.length ≤ 100) :
    FnOk P w K mg base CX0 4 f fd ["board"] (spHow P w C) := by
  refine F.ok scHow (fun vs H Q E h => ?_) (fun cdv A outer s H vs Q E hr h => ?_)
  · obtain ⟨b, own, S, rfl, _⟩ := h
    rfl
  · refine ⟨_, pss_cons (ps_set (i := 1) scHow.nd rfl (Or.inl rfl) pe_int)
      (pss_cons (ps_for PassesOwn.never rfl (pi_list (pe_fld (pv 0) rfl)) (pg_name (i := 2) scHow.nd rfl (Or.inl rfl))
        (pss_one (ps_set (i := 1) scHow.nd rfl (Or.inl rfl) (pe_op op_mul (pv 1) (pe_op op_add (pe_call N.ok hr rfl N.g N.kp N.b .nil pass0 (pa_cons (pv 2) pa_nil)) pe_int)))))
      (pss_one (ps_ret (pv 1)))), ?_⟩
    obtain ⟨b, own, S, rfl, B, ok, k⟩ := h
    obtain ⟨Y, I, eo⟩ := id B
    refine ⟨_, rfl, b, C, Y.dx, Y.fs, _, rfl, I.obj, T.cl, T.nV, I.fV, Y.aV, rfl, ⟨_, SqL.of I.hV⟩, for_list (K := K) (a := Y.aV) (xs := refs Y.LV) (fun i σ H' => ∃ v : Option V, σ = [some (.ref b), some (.int (rulesUp (S.views.take i) : Nat)), v] ∧ Same H H')
      ⟨none, rfl, Same.refl _⟩ (fun i σ H' _ ⟨_, _, s1⟩ => SqL.of (s1 _ _ I.hV)) ?_ ?_⟩
    · rintro i x σ H1 hi ⟨v, rfl, s1⟩
      obtain ⟨p, pi, rfl⟩ := refs_get hi
      have pm : p ∈ Y.LV := List.mem_of_getElem? pi
      have pin : p.2 ∈ S.views := by rw [← I.eV]; exact List.mem_map_of_mem pm
      have pg : S.views[i]? = some p.2 := by rw [← I.eV, List.getElem?_map, pi]; rfl
      obtain ⟨l1, l2⟩ := short S ok _ pin
      have up : rulesUp (S.views.take (i + 1)) = rulesUp (S.views.take i) * (mostTold p.2 + 1) := fold_take _ _ pg
      refine ⟨_, rfl, _, rfl, p.1, p.2, rfl, SqT.of (s1 _ _ (I.tV p pm)), l1, l2, fun H2 s2 => ?_⟩
      have ml := most_le p.2
      refine ⟨_, _, rfl, rfl, _, _, rfl, rfl, .inr ⟨by omega, by omega⟩, some (V.ref p.1), ?_, s1.trans s2⟩
      rw [up]
      show [some (V.ref b), some (V.int ((rulesUp (S.views.take i) : Int) * ((mostTold p.2 : Int) + 1))), some (V.ref p.1)] = _
      rw [show ((rulesUp (S.views.take i) : Int) * ((mostTold p.2 : Int) + 1)) = ((rulesUp (S.views.take i) * (mostTold p.2 + 1) : Nat) : Int) by rw [Int.natCast_mul, Int.natCast_add]; rfl]
    · rintro σ H1 ⟨v, rfl, s1⟩
      rw [refs_len, List.take_of_length_le (by rw [← snd_len I.eV]; exact Nat.le_refl _)]
      exact ⟨_, rfl, k H1 s1⟩
abbrev sCRules : Stmt := top 69
def fRules (S : SB) (_ : List Int) : SB × List Int := (S, [(rulesUp S.views : Int)])
theorem scCRules : FnScope ["board", "arguments"] ["board", "arguments"] (defScope sCRules) := ⟨rfl, rfl, rfl, by decide +kernel, rfl, by decide +kernel, by decide +kernel⟩
theorem ok_crules {f fM : Addr} {fd fdM : FuncData} (F : Fun K "call_rules" "call_rules" sCRules f fd) (N : Def P w K mg base 4 "how_many_rules" ["board"] (spHow P w C) fM fdM) :
    FnOk P w K mg base CX0 5 f fd ["board", "arguments"] (spCall P w K C (fun _ _ => True) fRules) := by
  refine F.ok scCRules (fun vs H Q E h => ?_) (fun cdv A outer s H vs Q E hr h => ?_)
  · obtain ⟨b, ar, own, S, as, rfl, _⟩ := h
    rfl
  · refine ⟨_, pss_one (ps_ret (pe_lst (pa_cons (pe_call N.ok hr rfl N.g N.kp N.b .nil pass0 (pa_cons (pv 0) pa_nil)) pa_nil))), ?_⟩
    obtain ⟨b, ar, own, S, as, rfl, B, ok, ha, har, _, k⟩ := h
    exact ⟨_, rfl, b, own, S, rfl, B, ok, fun H1 s1 => ⟨by show 1 ≤ sizeLine; decide, fun q hq => call_pure B (s1.trans (same_new hq)) (s1.free hq) upd_same k⟩⟩
/-! ### call_set -/
abbrev sCSet : Stmt := top 70
def a1 (as : List Int) : Nat := (as.getD 1 0).toNat
theorem at_a1 {as : List Int} (h : 1 < as.length) (h0 : 0 ≤ as.getD 1 0) : atI (as.map V.int) 1 = some (V.int (a1 as)) := by
  refine atI_nat (j := 1) ?_
  match as, h with
  | x :: y :: r, _ =>
    have h0 : 0 ≤ y := h0
    show some (V.int y) = some (V.int ((y.toNat : Nat) : Int))
    rw [Int.toNat_of_nonneg h0]
def fSet (S : SB) (as : List Int) : SB × List Int := if mostTold (S.views.getD (a0 as) []) < a1 as then (S, [-22]) else ({ S with rule := S.rule.set (a0 as) (a1 as) }, [(S.rule.getD (a0 as) 0 : Int)])
def TwoV (S : SB) (as : List Int) : Prop := Names0 (fun S => S.views.length) S as ∧ 1 < as.length ∧ 0 ≤ as.getD 1 0
theorem scCSet : FnScope ["board", "arguments", "number", "done", "before"] ["board", "arguments"] (defScope sCSet) := ⟨rfl, rfl, rfl, by decide +kernel, rfl, by decide +kernel, by decide +kernel⟩
theorem ok_cset {f fM : Addr} {fd fdM : FuncData} (F : Fun K "call_set" "call_set" sCSet f fd) (T : Txt K mg C) (Z : Nos mg) (N : Def P w K mg base 3 "most_told" ["view"] (spMost K) fM fdM) (short : ∀ S : SB, SOk S → ∀ r ∈ S.views, 0 < r.length ∧ r.length ≤ 100) :
    FnOk P w K mg base CX0 4 f fd ["board", "arguments"] (spCall P w K C TwoV fSet) := by
  obtain ⟨tk, gO⟩ := Z.out
  refine F.ok scCSet (fun vs H Q E h => ?_) (fun cdv A outer s H vs Q E hr h => ?_)
  · obtain ⟨b, ar, own, S, as, rfl, _⟩ := h
    rfl
  · refine ⟨_, pss_cons (ps_set (i := 2) scCSet.nd rfl (Or.inl rfl) (pe_ix ix_list (pv 1) pe_int (fun _ _ => rfl)))
      (pss_cons (ps_set (i := 3) scCSet.nd rfl (Or.inl rfl) (pe_ix ix_list (pv 1) pe_int (fun _ _ => rfl)))
      (pss_cons (ps_if (pt_cmpR op_gt (pv 3) (pe_call N.ok hr rfl N.g N.kp N.b .nil pass0 (pa_cons (pe_ix ix_list (pe_fld (pv 0) rfl) (pv 2) (fun _ _ => rfl)) pa_nil)) (nomark _)) (pss_one (ps_ret (pe_lst (pa_cons (pe_glob (v := .int (-22)) rfl gO ⟨_, rfl⟩) pa_nil)))) pss_nil)
      (pss_cons (ps_set (i := 4) scCSet.nd rfl (Or.inl rfl) (pe_ix ix_list (pe_fld (pv 0) rfl) (pv 2) (fun _ _ => rfl)))
      (pss_cons (ps_asg (pv 3) (pg_sub (pe_fld (pv 0) rfl) (pv 2) set_list))
      (pss_one (ps_ret (pe_lst (pa_cons (pv 4) pa_nil)))))))), ?_⟩
    obtain ⟨b, ar, own, S, as, rfl, B, ok, ha, har, ⟨⟨h1, h2, h3⟩, h4, h5⟩, k⟩ := h
    obtain ⟨Y, I, eo⟩ := id B
    obtain ⟨p, pm, _, pe, pat⟩ := refs_at I.eV h3
    have pin : p.2 ∈ S.views := by rw [← I.eV]; exact List.mem_map_of_mem pm
    obtain ⟨l1, l2⟩ := short S ok _ pin
    refine ⟨_, rfl, ar, _, _, _, rfl, rfl, ha, at_a0 h1 h2, _, rfl, ar, _, _, _, rfl, rfl, ha, at_a1 h4 h5, ?_⟩
    refine ⟨_, rfl, _, rfl, b, C, Y.dx, Y.fs, _, rfl, I.obj, T.cl, T.nV, I.fV, _, rfl, Y.aV, _, _, _, rfl, rfl, SqL.of I.hV, pat, p.1, p.2, rfl, SqT.of (I.tV p pm), l1, l2, fun H1 s1 => ?_⟩
    refine ⟨_, _, rfl, rfl, _, rfl, ?_⟩
    have k1 := k
    unfold fSet at k1
    rw [← pe] at k1
    refine ite2 (fun c => ?_) (fun c => ?_)
    · have c : mostTold p.2 < a1 as := by have := of_decide_eq_true c; omega
      rw [if_pos c] at k1
      exact ⟨by show 1 ≤ sizeLine; decide, fun q hq => call_pure B (s1.trans (same_new hq)) (s1.free hq) upd_same k1⟩
    · have c : ¬ mostTold p.2 < a1 as := fun z => c (decide_eq_true (by omega))
      rw [if_neg c] at k1
      have B1 := B.same s1
      have I1 : BoardIn P w C H1 b Y S := I.same s1
      have hr3 : a0 as < S.rule.length := by rw [ok.rl]; exact h3
      have rat : (S.rule.map fun x : Nat => V.int x)[a0 as]? = some (V.int (S.rule.getD (a0 as) 0)) := by
        rw [List.getElem?_map, List.getD_eq_getElem?_getD, List.getElem?_eq_getElem hr3]; rfl
      have ix : ixN (S.rule.map fun x : Nat => V.int x).length (a0 as : Int) = some (a0 as) := by
        unfold ixN
        rw [if_pos (by omega), if_pos (by rw [List.length_map]; omega), Int.toNat_natCast]
      refine ⟨_, rfl, b, C, Y.dx, Y.fs, _, rfl, I1.obj, T.cl, T.nR, I1.fR, _, rfl, Y.aR, _, _, _, rfl, rfl, SqL.of I1.hR, atI_nat rat, ?_⟩
      refine ⟨_, rfl, _, rfl, b, C, Y.dx, Y.fs, _, rfl, I1.obj, T.cl, T.nR, I1.fR, _, rfl, Y.aR, _, _, _, rfl, rfl, I1.hR, ix, _, rfl, by show 1 ≤ sizeLine; decide, fun q hq => ?_⟩
      have es : (S.rule.map fun x : Nat => V.int x).set (a0 as) (V.int (a1 as)) = (S.rule.set (a0 as) (a1 as)).map fun x : Nat => V.int x := by rw [List.map_set]
      rw [es] at hq ⊢
      have am : Y.aR ∈ own := by rw [eo]; unfold BP.own; simp
      exact call_done (own := own) (ans := [(S.rule.getD (a0 as) 0 : Int)]) ⟨_, I1.rules _, eo⟩ (fun _ m => .inl m) (keeps_upd (Same.keeps s1 own) (.inl am)) (still B1.stand) hq k1
end
end RF

/-! ## RFCallsF -/
namespace RF
open PySem PySem.Spec PyProof.Rows L2
theorem place_at {l : List (List Int)} {x : List Int} (h : x ∈ l) : l[placeIn l x]? = some x ∧ ∀ m, m < placeIn l x → l[m]? ≠ some x := by
  have ex : l.findIdx (fun y => decide (y = x)) < l.length := List.findIdx_lt_length_of_exists ⟨x, h, decide_eq_true rfl⟩
  constructor
  · unfold placeIn
    have z := List.findIdx_getElem (xs := l) (p := fun y => decide (y = x)) (w := ex)
    rw [List.getElem?_eq_getElem ex, of_decide_eq_true z]
  · intro m hm e
    obtain ⟨h1, h2⟩ := List.getElem?_eq_some_iff.mp e
    have z := List.not_of_lt_findIdx (xs := l) (p := fun y => decide (y = x)) hm
    rw [h2] at z
    simp at z
section
variable {P : Program} {w : World} {K : PySem.W.Frag} {mg : Str → Option Value} {base : Heap} {C : Addr}
/-! ### numbers_of_views -/
abbrev sNov : Stmt := top 13
def spNov (K : PySem.W.Frag) : Sp := fun vs H Q _ => ∃ (a v : Addr) (ns : List Int) (e : Nat) (LV : LA), vs = [.ref a, .int (e : Int), .ref v] ∧ SqT K H a (ns.map V.int) ∧ 0 < ns.length ∧ ns.length ≤ 100 ∧ e ≤ 2 ∧ SqL K H v (refs LV) ∧ Tups H LV ∧ (∀ x ∈ viewsIn e ns, x ∈ LV.map (·.2)) ∧
  ∀ (H' : Hp) (q : Addr), Same H H' → H q = none → H' q = some (.lst (vN ((viewsIn e ns).map (placeIn (LV.map (·.2)))))) → Q (.ref q) H'
abbrev nNov : List Str := ["ring", "eyes", "views", "view"]
theorem scNov : FnScope nNov ["ring", "eyes", "views"] (defScope sNov) := ⟨rfl, rfl, rfl, by decide +kernel, rfl, by decide +kernel, by decide +kernel⟩
theorem ok_nov {f fV : Addr} {fd fdV : FuncData} (F : Fun K "numbers_of_views" "numbers_of_views" sNov f fd) (V' : Def P w K mg base 3 "views_in" ["ring", "eyes"] (spVin K) fV fdV) : FnOk P w K mg base CX0 4 f fd ["ring", "eyes", "views"] (spNov K) := by
  refine F.ok scNov (fun vs H Q E h => ?_) (fun cdv A outer s H vs Q E hr h => ?_)
  · obtain ⟨a, v, ns, e, LV, rfl, _⟩ := h
    rfl
  · have hu65 : A.units + 3 + 65 < cLine := by have := hr.un; change A.units + 3 + 16 * 3 + 200 < cLine at this; omega
    refine ⟨_, pss_one (ps_ret (pe_lc (own := [("view", 3)]) (g := gName 3) (tt := tYes) (te := tBM K "list" (rIndexT K) (tVar 2) (tCons (tVar 3) tNil)) rfl scNov.nd (pi_list (pe_call V'.ok hr rfl V'.g V'.kp V'.b .nil pass0 (pa_cons (pv 0) (pa_cons (pv 1) pa_nil)))) (blkOk_by (N := nNov) (sc := defScope sNov) (by decide +kernel))
          (fun _ _ _ _ _ => pg_name (i := 3) scNov.nd rfl (Or.inl rfl)) (fun _ _ _ _ _ => pts_nil)
          (fun _ _ _ _ _ => pe_bm PySem.F.plainAttrs_list PySem.F.slot_list_index PySem.F.type_list_index (mt_indexT hu65) (pv 2) (pa_cons (pv 3) pa_nil)))), ?_⟩
    obtain ⟨a, v, ns, e, LV, rfl, ha, l1, l2, he, hv, tv, hin, k⟩ := h
    refine ⟨_, rfl, _, rfl, a, ns, e, rfl, ha, l1, l2, he, fun H1 q M s1 n1 hM tM eM => ?_⟩
    have lM : M.length ≤ 100 := by rw [snd_len eM]; exact Nat.le_trans (views_len _ _ _) l2
    refine ⟨q, rfl, ⟨_, SqL.of hM⟩, fun D hD => ?_⟩
    refine lc_list (K := K) (a := q) (xs := refs M) (fun j H' => H' = upd H1 D (.lst (vN (((viewsIn e ns).take j).map (placeIn (LV.map (·.2))))))) rfl (fun j H' _ z => by rw [z]; exact (same_new hD).seq (SqL.of hM)) ?_ ?_
    · rintro j x H2 hj rfl
      obtain ⟨r, ri, rfl⟩ := refs_get hj
      have rm : r ∈ M := List.mem_of_getElem? ri
      have rg : (viewsIn e ns)[j]? = some r.2 := by rw [← eM]; exact snds_at ri
      obtain ⟨q1, q2⟩ := place_at (hin _ (List.mem_of_getElem? rg))
      have jl := (List.getElem?_eq_some_iff.mp rg).1
      have sN := same_new (o := .lst (vN (((viewsIn e ns).take j).map (placeIn (LV.map (·.2)))))) hD
      have sD := s1.trans sN
      refine ⟨rfl, _, rfl, .inl ⟨rfl, _, sD.seq hv⟩, _, rfl, v, r.1, r.2, LV, placeIn (LV.map (·.2)) r.2, rfl, rfl, sD.seq hv, tv.same sD, SqT.of (sN _ _ (tM r rm)), q1, fun m hm => q2 m hm, _, upd_same, ?_, ?_⟩
      · rw [vN_len, List.length_map, List.length_take]
        have : (100 : Nat) < sizeLine := by decide
        have : (viewsIn e ns).length ≤ 100 := by rw [← snd_len eM]; exact lM
        omega
      · rw [upd_upd, List.take_succ_eq_append_getElem jl, (List.getElem?_eq_some_iff.mp rg).2]
        unfold vN
        rw [List.map_append, List.map_append]
        rfl
    · rintro H2 rfl
      rw [refs_len, List.take_of_length_le (by rw [snd_len eM]; exact Nat.le_refl _)]
      exact k _ D (s1.trans (same_new hD)) (s1.free hD) upd_same
/-! ### call_who -/
abbrev sCWho : Stmt := top 64
def fWho (S : SB) (as : List Int) : SB × List Int := (S, ((whoOf S (a0 as)).length : Int) :: zN (whoOf S (a0 as)))
theorem scCWho : FnScope ["board", "arguments"] ["board", "arguments"] (defScope sCWho) := ⟨rfl, rfl, rfl, by decide +kernel, rfl, by decide +kernel, by decide +kernel⟩
theorem refH_len (L : List (Addr × List Nat)) : (refH L).length = L.length := List.length_map ..
/-- the list of the views that are had in the i-th name -/
theorem had_at {H : Hp} {b : Addr} {Y : BP} {S : SB} (I : BoardIn P w C H b Y S) {i : Nat} (h : i < S.names.length) : ∃ q, atI (refH Y.LH) (i : Int) = some (V.ref q) ∧ H q = some (.lst (vN (whoOf S i))) ∧ q ∈ Y.lists := by
  have el : (Y.LH.map (·.2))[i]? = some (whoOf S i) := by rw [I.eH, List.getElem?_map, List.getElem?_range h]; rfl
  rw [List.getElem?_map] at el
  obtain ⟨x, ex, e2⟩ := Option.map_eq_some_iff.mp el
  have m := List.mem_of_getElem? ex
  refine ⟨x.1, atI_nat ?_, by rw [← e2]; exact I.tH x m, in_LH m⟩
  unfold refH
  rw [List.getElem?_map, ex]
  rfl
theorem who_len (S : SB) (i : Nat) : (whoOf S i).length ≤ (S.names.getD i []).length := by
  unfold whoOf
  rw [List.length_map]
  exact views_len _ _ _
theorem ok_cwho {f fC : Addr} {fd fdC : FuncData} (F : Fun K "call_who" "call_who" sCWho f fd) (T : Txt K mg C) (N : Def P w K mg base 1 "counted" ["numbers"] spCounted fC fdC)
    (short : ∀ S : SB, SOk S → ∀ r ∈ S.names, 0 < r.length ∧ r.length ≤ 100) :
    FnOk P w K mg base CX0 2 f fd ["board", "arguments"] (spCall P w K C (Names0 fun S => S.names.length) fWho) := by
  refine F.ok scCWho (fun vs H Q E h => ?_) (fun cdv A outer s H vs Q E hr h => ?_)
  · obtain ⟨b, ar, own, S, as, rfl, _⟩ := h
    rfl
  · refine ⟨_, pss_one (ps_ret (pe_call N.ok hr rfl N.g N.kp N.b .nil pass0 (pa_cons (pe_ix ix_list (pe_fld (pv 0) rfl) (pe_ix ix_list (pv 1) pe_int (fun _ _ => rfl)) (fun _ _ => rfl)) pa_nil))), ?_⟩
    obtain ⟨b, ar, own, S, as, rfl, B, ok, ha, har, ⟨h1, h2, h3⟩, k⟩ := h
    obtain ⟨Y, I, eo⟩ := id B
    obtain ⟨q0, g1, g2, _⟩ := had_at I h3
    have wl := who_len S (a0 as)
    have nm : S.names.getD (a0 as) [] ∈ S.names := by rw [List.getD_eq_getElem?_getD, List.getElem?_eq_getElem h3]; exact List.getElem_mem h3
    have sh := (short S ok _ nm).2
    refine ⟨_, rfl, b, C, Y.dx, Y.fs, _, rfl, I.obj, T.cl, T.nH, I.fH, _, rfl, ar, _, _, _, rfl, rfl, ha, at_a0 h1 h2, Y.aH, _, _, _, rfl, rfl, SqL.of I.hH, g1, q0, zN (whoOf S (a0 as)), rfl, by rw [← vN_zN]; exact g2, by unfold zN; rw [List.length_map]; omega, fun H' q s' n' e' => ?_⟩
    refine call_pure B s' n' ?_ k
    rw [e']
    unfold fWho zN
    rw [List.length_map]
end
end RF

/-! ## RFMathA -/
namespace RF
def zs (l : List Nat) : List Int := l.map fun x : Nat => (x : Int)
def okSet (n k e : Nat) : Bool :=
  let ns := namesOf n k
  let vs := viewsOf e ns
  decide (ns = (Km534.names n k).map zs) && decide (vs = (Km537.views ⟨n, e, k, 0, [], []⟩).map zs) && decide ((keysOf e ns).length < 64) && ((keysOf e ns).all fun v => decide (v.length = n) && v.all fun x => decide (0 ≤ x) && decide (x < 4))
theorem sets_ok : ∀ n, n < 5 → ∀ k, k < 3 → ∀ e, e < 3 → okSet (n + 3) (k + 1) e = true := by decide +kernel
end RF

/-! ## RFMathB -/
namespace RF
def dk (n e k : Nat) : Km537.Desk := ⟨n, e, k, 0, [], []⟩
/-- of each name and each view of a setting: what the program and the specification say is alike -/
def okMore (n k e : Nat) : Bool :=
  let ns := Km534.names n k
  let vs := Km537.views (dk n e k)
  (ns.all fun l => decide (viewsIn e (zs l) = (Km534.viewsOf ⟨l, e⟩).map zs) && decide (allApart (zs l) = Km537.apart l) && decide (l.length = n) && (Km534.viewsOf ⟨l, e⟩).all fun v => vs.contains v) &&
  (vs.all fun v => decide (evenHanded (zs v) = Km537.evenRow v) && decide (v.length = n))
theorem more_ok : ∀ n, n < 5 → ∀ k, k < 3 → ∀ e, e < 3 → okMore (n + 3) (k + 1) e = true := by decide +kernel
end RF

/-! ## RFMoveA -/
/-! Moves as the specification tells them: one place's robots by how many go where; the program's: robot by robot. -/
namespace RF
theorem zs_len (l : List Nat) : (zs l).length = l.length := List.length_map ..
/-! ### rows and views -/
theorem zs_getD (l : List Nat) (j : Nat) : (zs l).getD j 0 = ((l.getD j 0 : Nat) : Int) := by
  unfold zs
  rw [List.getD_eq_getElem?_getD, List.getElem?_map, List.getD_eq_getElem?_getD]
  cases l[j]? <;> rfl
theorem seen_one (e x : Nat) (h : x ≤ 3) : (if highest e < (x : Int) then highest e else (x : Int)) = ((Km534.sees e x : Nat) : Int) ∨ 2 < e := by
  match e with
  | 0 => left; have : highest 0 = 3 := rfl; rw [this, if_neg (by omega)]; rfl
  | 1 =>
    left
    have : highest 1 = 2 := rfl
    rw [this]
    show _ = ((min x 2 : Nat) : Int)
    split <;> omega
  | 2 =>
    left
    have : highest 2 = 1 := rfl
    rw [this]
    show _ = ((min x 1 : Nat) : Int)
    split <;> omega
  | e + 3 => right; omega
theorem sees_zero (e : Nat) : Km534.sees e 0 = 0 := by
  unfold Km534.sees
  split
  · rfl
  · split <;> rfl
/-- a ring of few robots -/
def Few (l : List Nat) : Prop := ∀ x ∈ l, x ≤ 3
theorem getD_few {l : List Nat} (h : Few l) (j : Nat) : l.getD j 0 ≤ 3 := by
  rw [List.getD_eq_getElem?_getD]
  cases e : l[j]? with
  | none => exact Nat.zero_le _
  | some x => exact h x (List.mem_of_getElem? e)
theorem seen_zs {l : List Nat} {e : Nat} (h : Few l) (he : e ≤ 2) : seenBy e (zs l) = zs (l.map fun x => Km534.sees e x) := by
  unfold seenBy zs
  rw [List.map_map, List.map_map]
  refine List.map_congr_left fun x m => ?_
  rcases seen_one e x (h x m) with z | z
  · exact z
  · omega
theorem mapD (e : Nat) (l : List Nat) (j : Nat) : (l.map fun x => Km534.sees e x).getD j 0 = Km534.sees e (l.getD j 0) := by
  rw [List.getD_eq_getElem?_getD, List.getElem?_map, List.getD_eq_getElem?_getD]
  cases l[j]? with
  | none => exact (sees_zero e).symm
  | some x => rfl
theorem row_on {l : List Nat} {e : Nat} (h : Few l) (he : e ≤ 2) (p : Nat) : rowFrom (seenBy e (zs l)) p 1 = zs (Km534.rowOn ⟨l, e⟩ p) := by
  have e2 : zs (Km534.rowOn ⟨l, e⟩ p) = (List.range l.length).map fun i : Nat => ((Km534.sees e (l.getD ((p + i) % l.length) 0) : Nat) : Int) := by
    unfold zs Km534.rowOn Km534.from_
    rw [List.map_map, List.map_map]
    rfl
  rw [seen_zs h he, e2]
  unfold rowFrom
  rw [zs_len, List.length_map]
  refine List.map_congr_left fun i m => ?_
  have hi := List.mem_range.mp m
  have e1 : (((p : Int) + 1 * (i : Int)) % (l.length : Int)).toNat = (p + i) % l.length := by
    rw [Int.one_mul, ← Int.natCast_add, ← Int.natCast_emod, Int.toNat_natCast]
  rw [e1]
  show (zs (l.map fun x => Km534.sees e x)).getD _ 0 = ((Km534.sees e (l.getD ((p + i) % l.length) 0) : Nat) : Int)
  rw [zs_getD, mapD]
theorem row_back {l : List Nat} {e : Nat} (h : Few l) (he : e ≤ 2) (p : Nat) : rowFrom (seenBy e (zs l)) p (-1) = zs (Km534.rowBack ⟨l, e⟩ p) := by
  have e2 : zs (Km534.rowBack ⟨l, e⟩ p) = (List.range l.length).map fun i : Nat => ((Km534.sees e (l.getD ((p + (l.length - i)) % l.length) 0) : Nat) : Int) := by
    unfold zs Km534.rowBack Km534.back
    rw [List.map_map, List.map_map]
    rfl
  rw [seen_zs h he, e2]
  unfold rowFrom
  rw [zs_len, List.length_map]
  refine List.map_congr_left fun i m => ?_
  have hi := List.mem_range.mp m
  have e1 : (((p : Int) + -1 * (i : Int)) % (l.length : Int)).toNat = (p + (l.length - i)) % l.length := by
    have : ((p : Int) + -1 * (i : Int)) % (l.length : Int) = (((p + (l.length - i) : Nat) : Int)) % (l.length : Int) := by
      have z : (((p + (l.length - i) : Nat) : Int)) = ((p : Int) + -1 * (i : Int)) + (l.length : Int) := by omega
      rw [z, Int.add_emod_right]
    rw [this, ← Int.natCast_emod, Int.toNat_natCast]
  rw [e1]
  show (zs (l.map fun x => Km534.sees e x)).getD _ 0 = ((Km534.sees e (l.getD ((p + (l.length - i)) % l.length) 0) : Nat) : Int)
  rw [zs_getD, mapD]
theorem lex_less : ∀ {a b : List Nat}, a.length = b.length → HT.lexLt (zs a) (zs b) = Km534.less a b
  | [], [], _ => rfl
  | [], _ :: _, h => by cases h
  | _ :: _, [], h => by cases h
  | x :: a, y :: b, h => by
    have ih := lex_less (a := a) (b := b) (Nat.succ.inj h)
    show HT.lexLt ((x : Int) :: zs a) ((y : Int) :: zs b) = (decide (x < y) || (x == y && Km534.less a b))
    rw [HT.lexLt_cons, ih]
    by_cases c : x = y
    · subst c; simp
    · rw [if_neg (by omega), show (x == y) = false from beq_eq_false_iff_ne.mpr c, Bool.false_and, Bool.or_false]
      rw [decide_eq_decide]; omega
theorem on_len (l : List Nat) (e p : Nat) : (Km534.rowOn ⟨l, e⟩ p).length = l.length := by unfold Km534.rowOn Km534.from_; simp
theorem back_len (l : List Nat) (e p : Nat) : (Km534.rowBack ⟨l, e⟩ p).length = l.length := by unfold Km534.rowBack Km534.back; simp
theorem zs_inj' {a b : List Nat} (h : zs a = zs b) : a = b := by
  unfold zs at h
  exact (List.map_inj_right (fun x y z => Int.ofNat.inj z)).mp h
theorem les_view {l : List Nat} {e : Nat} (h : Few l) (he : e ≤ 2) (p : Nat) : lesserRow (seenBy e (zs l)) p = zs (Km534.view ⟨l, e⟩ p).1 := by
  unfold lesserRow min2 Km534.view
  rw [row_on h he, row_back h he, lex_less (by rw [on_len, back_len])]
  split <;> rfl
theorem less_tot : ∀ {a b : List Nat}, a.length = b.length → a ≠ b → Km534.less a b = !Km534.less b a
  | [], [], _, n => absurd rfl n
  | [], _ :: _, h, _ => by cases h
  | _ :: _, [], h, _ => by cases h
  | x :: a, y :: b, h, n => by
    show (decide (x < y) || (x == y && Km534.less a b)) = !(decide (y < x) || (y == x && Km534.less b a))
    by_cases c : x = y
    · subst c
      have ih := less_tot (a := a) (b := b) (Nat.succ.inj h) fun z => n (by rw [z])
      simp [ih]
    · have c2 : ¬ y = x := fun z => c z.symm
      rw [show (x == y) = false from beq_eq_false_iff_ne.mpr c, show (y == x) = false from beq_eq_false_iff_ne.mpr c2, Bool.false_and, Bool.false_and, Bool.or_false, Bool.or_false, ← decide_not, decide_eq_decide]
      omega
theorem goes_is {l : List Nat} (d : Km535.Desk) (h : Few l) (he : d.see.eyes ≤ 2) {p : Nat} (hp : p < l.length) :
    Km535.goes d l p = (stepsOf (seenBy d.see.eyes (zs l)) p (Km535.told d (Km534.view ⟨l, d.see.eyes⟩ p).1)).map (thereOf l.length p) := by
  have t1 : thereOf l.length p 1 = (p + 1) % l.length := by
    unfold thereOf
    rw [show (p : Int) + 1 = ((p + 1 : Nat) : Int) by omega, ← Int.natCast_emod, Int.toNat_natCast]
  have t2 : thereOf l.length p (-1) = (p + (l.length - 1)) % l.length := by
    unfold thereOf
    have : ((p : Int) + -1) % (l.length : Int) = (((p + (l.length - 1) : Nat) : Int)) % (l.length : Int) := by
      have z : (((p + (l.length - 1) : Nat) : Int)) = ((p : Int) + -1) + (l.length : Int) := by omega
      rw [z, Int.add_emod_right]
    rw [this, ← Int.natCast_emod, Int.toNat_natCast]
  have hu : Km535.goes d l p = (if Km535.told d (Km534.view ⟨l, d.see.eyes⟩ p).1 = 0 then [] else if Km534.even_ ⟨l, d.see.eyes⟩ p then [(p + 1) % l.length, (p + (l.length - 1)) % l.length] else
      if ((Km534.view ⟨l, d.see.eyes⟩ p).1 == Km534.rowOn ⟨l, d.see.eyes⟩ p) == (Km535.told d (Km534.view ⟨l, d.see.eyes⟩ p).1 == 1) then [(p + 1) % l.length] else [(p + (l.length - 1)) % l.length]) := rfl
  rw [hu]
  generalize ht : Km535.told d (Km534.view ⟨l, d.see.eyes⟩ p).1 = t
  unfold stepsOf
  rw [row_on h he, row_back h he]
  by_cases c : t = 0
  · rw [if_pos c, if_pos c]; rfl
  · rw [if_neg c, if_neg c]
    have ev : Km534.even_ ⟨l, d.see.eyes⟩ p = decide (Km534.rowOn ⟨l, d.see.eyes⟩ p = Km534.rowBack ⟨l, d.see.eyes⟩ p) := by
      unfold Km534.even_
      rw [Bool.eq_iff_iff, beq_iff_eq, decide_eq_true_eq]
    by_cases c2 : Km534.rowOn ⟨l, d.see.eyes⟩ p = Km534.rowBack ⟨l, d.see.eyes⟩ p
    · rw [ev, decide_eq_true c2, if_pos rfl, if_pos (by rw [c2])]
      show _ = [_, _]
      rw [t1, t2]
    · rw [ev, decide_eq_false c2, if_neg Bool.false_ne_true, if_neg (fun z => c2 (zs_inj' z)), lex_less (by rw [on_len, back_len])]
      have tot := less_tot (a := Km534.rowOn ⟨l, d.see.eyes⟩ p) (b := Km534.rowBack ⟨l, d.see.eyes⟩ p) (by rw [on_len, back_len]) c2
      have v1 : ((Km534.view ⟨l, d.see.eyes⟩ p).1 == Km534.rowOn ⟨l, d.see.eyes⟩ p) = Km534.less (Km534.rowOn ⟨l, d.see.eyes⟩ p) (Km534.rowBack ⟨l, d.see.eyes⟩ p) := by
        rw [tot]
        unfold Km534.view
        cases Km534.less (Km534.rowBack ⟨l, d.see.eyes⟩ p) (Km534.rowOn ⟨l, d.see.eyes⟩ p) with
        | true =>
          rw [if_pos rfl]
          exact beq_eq_false_iff_ne.mpr fun z => c2 z.symm
        | false =>
          rw [if_neg Bool.false_ne_true]
          exact beq_self_eq_true _
      rw [v1]
      have b1 : (t == 1) = decide (t = 1) := rfl
      rw [b1]
      by_cases c3 : Km534.less (Km534.rowOn ⟨l, d.see.eyes⟩ p) (Km534.rowBack ⟨l, d.see.eyes⟩ p) = decide (t = 1)
      · rw [if_pos c3, if_pos (by rw [c3]; exact beq_self_eq_true _)]
        show _ = [_]
        rw [t1]
      · rw [if_neg c3, if_neg (fun z => c3 (beq_iff_eq.mp z))]
        show _ = [_]
        rw [t2]
end RF

/-! ## RFSteps -/
/-! The calls as data against the specification's step. -/
namespace RF
def desk (S : SB) : Km537.Desk := ⟨S.n, S.e, S.k, S.a, risen S.names.length S.ord, S.rule⟩
structure Facts (S : SB) : Prop where
  names : S.names = (Km537.names (desk S)).map zs
  views : S.views = (Km537.views (desk S)).map zs
  few : (keysOf S.e S.names).length < 64
  bd : ∀ v ∈ keysOf S.e S.names, v.length = S.n ∧ ∀ x ∈ v, 0 ≤ x ∧ x < 4
  vin : ∀ l ∈ Km537.names (desk S), viewsIn S.e (zs l) = (Km537.seen (desk S) l).map zs
  apart : ∀ l ∈ Km537.names (desk S), allApart (zs l) = Km537.apart l
  nlen : ∀ l ∈ Km537.names (desk S), l.length = S.n
  has : ∀ l ∈ Km537.names (desk S), ∀ v ∈ Km537.seen (desk S) l, v ∈ Km537.views (desk S)
  even : ∀ v ∈ Km537.views (desk S), evenHanded (zs v) = Km537.evenRow v
  vlen : ∀ v ∈ Km537.views (desk S), v.length = S.n
theorem set_facts {n e k : Nat} (hn : 3 ≤ n ∧ n ≤ 7) (he : e ≤ 2) (hk : 1 ≤ k ∧ k ≤ 3) : okSet n k e = true ∧ okMore n k e = true := by
  have a := sets_ok (n - 3) (by omega) (k - 1) (by omega) e (by omega)
  have b := more_ok (n - 3) (by omega) (k - 1) (by omega) e (by omega)
  rw [show n - 3 + 3 = n by omega, show k - 1 + 1 = k by omega] at a b
  exact ⟨a, b⟩
theorem facts {S : SB} (hn : 3 ≤ S.n ∧ S.n ≤ 7) (he : S.e ≤ 2) (hk : 1 ≤ S.k ∧ S.k ≤ 3) : Facts S := by
  obtain ⟨a, b⟩ := set_facts hn he hk
  unfold okSet at a
  unfold okMore at b
  simp only [Bool.and_eq_true, List.all_eq_true, decide_eq_true_eq] at a b
  obtain ⟨⟨⟨a1, a2⟩, a3⟩, a4⟩ := a
  obtain ⟨b1, b2⟩ := b
  exact ⟨a1, a2, a3, fun v m => a4 v m, fun l m => (b1 l m).1.1.1, fun l m => (b1 l m).1.1.2, fun l m => (b1 l m).1.2, fun l m v mv => by have z := (b1 l m).2 v mv; rw [List.contains_iff_mem] at z; exact z, fun v m => (b2 v m).1, fun v m => (b2 v m).2⟩
theorem zs_inj {a b : List Nat} (h : zs a = zs b) : a = b := by
  unfold zs at h
  exact (List.map_inj_right (fun x y z => Int.ofNat.inj z)).mp h
theorem n2i_zs (l : List Nat) : Km537.n2i l = zs l := rfl
theorem zN_zs (l : List Nat) : zN l = zs l := rfl
/-- the specification's step, its answer as one list -/
def toldOf (r : Km537.State × Km537.Ans) : Km537.State × List Int := (r.1, r.2.num :: r.2.nums)
theorem step_of {c : List Int} {x : Km537.Call} {st : Km537Neutral.S} (h : Km537Neutral.callOf [c] = some x) : Km537Neutral.step st [c] = toldOf (Km537.step st x) := by
  unfold Km537Neutral.step
  rw [h]
  rfl
section
variable {S : SB}
theorem nlen_eq (F : Facts S) : S.names.length = (Km537.names (desk S)).length := by rw [F.names, List.length_map]
theorem vlen_eq (F : Facts S) : S.views.length = (Km537.views (desk S)).length := by rw [F.views, List.length_map]
theorem name_at (F : Facts S) {i : Nat} {l : List Nat} (h : (Km537.names (desk S))[i]? = some l) : S.names.getD i [] = zs l := by
  rw [F.names, List.getD_eq_getElem?_getD, List.getElem?_map, h]
  rfl
theorem view_at (F : Facts S) {i : Nat} {l : List Nat} (h : (Km537.views (desk S))[i]? = some l) : S.views.getD i [] = zs l := by
  rw [F.views, List.getD_eq_getElem?_getD, List.getElem?_map, h]
  rfl
/-! ### names, views, name, view -/
theorem st_names (F : Facts S) : toldOf (Km537.step (some (desk S)) .names) = (some (desk S), [(S.names.length : Int)]) := by
  rw [nlen_eq F]; rfl
theorem st_views (F : Facts S) : toldOf (Km537.step (some (desk S)) .views) = (some (desk S), [(S.views.length : Int)]) := by
  rw [vlen_eq F]; rfl
theorem st_name (F : Facts S) (i : Nat) : toldOf (Km537.step (some (desk S)) (.name i)) = (some (desk S), if S.names.length ≤ i then [-2] else ((S.names.getD i []).length : Int) :: S.names.getD i []) := by
  have e : toldOf (Km537.step (some (desk S)) (.name i)) = (some (desk S), (match (Km537.names (desk S))[i]? with | none => Km537.say (-2) | some l => Km537.tellAll l).num :: (match (Km537.names (desk S))[i]? with | none => Km537.say (-2) | some l => Km537.tellAll l).nums) := rfl
  rw [e, nlen_eq F]
  cases h : (Km537.names (desk S))[i]? with
  | none =>
    rw [if_pos (List.getElem?_eq_none_iff.mp h)]
    rfl
  | some l =>
    rw [if_neg (Nat.not_le.mpr (List.getElem?_eq_some_iff.mp h).1), name_at F h, zs_len]
    rfl
theorem st_view (F : Facts S) (i : Nat) : toldOf (Km537.step (some (desk S)) (.view i)) = (some (desk S), if S.views.length ≤ i then [-2] else (if evenHanded (S.views.getD i []) then 1 else 0) :: S.views.getD i []) := by
  have e : toldOf (Km537.step (some (desk S)) (.view i)) = (some (desk S), (match (Km537.views (desk S))[i]? with | none => Km537.say (-2) | some l => ⟨(if Km537.evenRow l then 1 else 0), Km537.n2i l⟩).num :: (match (Km537.views (desk S))[i]? with | none => Km537.say (-2) | some l => ⟨(if Km537.evenRow l then 1 else 0), Km537.n2i l⟩).nums) := rfl
  rw [e, vlen_eq F]
  cases h : (Km537.views (desk S))[i]? with
  | none =>
    rw [if_pos (List.getElem?_eq_none_iff.mp h)]
    rfl
  | some l =>
    rw [if_neg (Nat.not_le.mpr (List.getElem?_eq_some_iff.mp h).1), view_at F h, F.even l (List.mem_of_getElem? h)]
    rfl
/-! ### who -/
theorem place_eq {vs : List (List Nat)} {v : List Nat} (h : v ∈ vs) : placeIn (vs.map zs) (zs v) = Km537.place vs v := by
  unfold placeIn Km537.place
  rw [List.findIdx_map]
  have e : ((fun y => decide (y = zs v)) ∘ zs) = fun x => x == v := by
    funext x
    show decide (zs x = zs v) = (x == v)
    by_cases c : x = v
    · subst c; simp
    · rw [decide_eq_false (fun z => c (zs_inj z))]
      exact (beq_eq_false_iff_ne.mpr c).symm
  rw [e, List.findIdx?_eq_some_of_exists (p := fun x => x == v) ⟨v, h, beq_self_eq_true v⟩]
  rfl
theorem st_who (F : Facts S) (i : Nat) : toldOf (Km537.step (some (desk S)) (.who i)) = (some (desk S), if S.names.length ≤ i then [-2] else ((whoOf S i).length : Int) :: zN (whoOf S i)) := by
  have e : toldOf (Km537.step (some (desk S)) (.who i)) = (some (desk S), (match (Km537.names (desk S))[i]? with | none => Km537.say (-2) | some l => Km537.tellAll ((Km537.seen (desk S) l).map fun v => Km537.place (Km537.views (desk S)) v)).num :: (match (Km537.names (desk S))[i]? with | none => Km537.say (-2) | some l => Km537.tellAll ((Km537.seen (desk S) l).map fun v => Km537.place (Km537.views (desk S)) v)).nums) := rfl
  rw [e, nlen_eq F]
  cases h : (Km537.names (desk S))[i]? with
  | none =>
    rw [if_pos (List.getElem?_eq_none_iff.mp h)]
    rfl
  | some l =>
    have m := List.mem_of_getElem? h
    have w : whoOf S i = (Km537.seen (desk S) l).map fun v => Km537.place (Km537.views (desk S)) v := by
      unfold whoOf
      rw [name_at F h, F.vin l m, List.map_map, F.views]
      exact List.map_congr_left fun v mv => place_eq (F.has l m v mv)
    rw [if_neg (Nat.not_le.mpr (List.getElem?_eq_some_iff.mp h).1), w]
    rfl
/-! ### at, rules -/
theorem st_at (x : Nat) : toldOf (Km537.step (some (desk S)) (.at_ x)) = if 2 < x then (some (desk S), [-22]) else (some (desk { S with a := x }), [(S.a : Int)]) := by
  have e : toldOf (Km537.step (some (desk S)) (.at_ x)) = toldOf (if 2 < x then (some (desk S), Km537.say (-22)) else (some { desk S with at_ := x }, Km537.say ((desk S).at_ : Nat))) := rfl
  rw [e]
  split <;> rfl
theorem choices_eq {v : List Nat} (h : evenHanded (zs v) = Km537.evenRow v) : Km537.choices v = mostTold (zs v) + 1 := by
  unfold Km537.choices mostTold
  rw [h]
  split <;> rfl
theorem rules_fold : ∀ (vs : List (List Nat)) (z : Nat), (∀ v ∈ vs, evenHanded (zs v) = Km537.evenRow v) → vs.foldl (fun (a : Nat) (v : List Nat) => a * Km537.choices v) z = (vs.map zs).foldl (fun r v => r * (mostTold v + 1)) z
  | [], _, _ => rfl
  | v :: r, z, h => by
    rw [List.map_cons, List.foldl_cons, List.foldl_cons, rules_fold r _ fun u m => h u (List.mem_cons_of_mem _ m), choices_eq (h v List.mem_cons_self)]
theorem rules_eq (F : Facts S) : Km537.rulesThereAre (desk S) = rulesUp S.views := by
  unfold Km537.rulesThereAre rulesUp
  rw [F.views]
  exact rules_fold _ 1 F.even
theorem st_rules (F : Facts S) : toldOf (Km537.step (some (desk S)) .rules) = (some (desk S), [(rulesUp S.views : Int)]) := by
  rw [← rules_eq F]
  rfl
/-! ### mark, unmark, markapart, marks, set -/
theorem ins_mem (x : Nat) : ∀ (l : List Nat) (y : Nat), y ∈ Km537.insertN x l ↔ y = x ∨ y ∈ l
  | [], y => by simp [Km537.insertN]
  | z :: r, y => by
    unfold Km537.insertN
    split
    · simp
    · rw [List.mem_cons, ins_mem x r y, List.mem_cons]
      constructor
      · rintro (h | h | h)
        · exact .inr (.inl h)
        · exact .inl h
        · exact .inr (.inr h)
      · rintro (h | h | h)
        · exact .inr (.inl h)
        · exact .inl h
        · exact .inr (.inr h)
theorem ins_sort (x : Nat) : ∀ l : List Nat, l.Pairwise (· < ·) → x ∉ l → (Km537.insertN x l).Pairwise (· < ·)
  | [], _, _ => List.pairwise_singleton _ _
  | z :: r, h, n => by
    obtain ⟨h1, h2⟩ := List.pairwise_cons.mp h
    unfold Km537.insertN
    split
    · next c =>
      refine List.pairwise_cons.mpr ⟨fun y m => ?_, h⟩
      rcases List.mem_cons.mp m with rfl | m
      · exact c
      · exact Nat.lt_trans c (h1 y m)
    · next c =>
      refine List.pairwise_cons.mpr ⟨fun y m => ?_, ins_sort x r h2 fun z => n (List.mem_cons_of_mem _ z)⟩
      rcases (ins_mem x r y).mp m with rfl | m
      · have : y ≠ z := fun e => n (e ▸ List.mem_cons_self)
        omega
      · exact h1 y m
theorem risen_sorted (m : Nat) (o : List Nat) : (risen m o).Pairwise (· < ·) := List.Pairwise.sublist List.filter_sublist List.pairwise_lt_range
theorem risen_mem {m : Nat} {o : List Nat} {i : Nat} : i ∈ risen m o ↔ i < m ∧ i ∈ o := by
  unfold risen
  rw [List.mem_filter, List.mem_range, decide_eq_true_eq]
/-- a rising list is told by what is in it -/
theorem rising_eq {l r : List Nat} (h1 : l.Pairwise (· < ·)) (h2 : r.Pairwise (· < ·)) (h : ∀ i, i ∈ l ↔ i ∈ r) : l = r := by
  have n1 : l.Nodup := h1.imp fun z => Nat.ne_of_lt z
  have n2 : r.Nodup := h2.imp fun z => Nat.ne_of_lt z
  exact List.Perm.eq_of_pairwise (le := (· < ·)) (fun a b _ _ x y => absurd (Nat.lt_trans x y) (Nat.lt_irrefl _)) h1 h2 ((List.perm_ext_iff_of_nodup n1 n2).mpr h)
theorem ord_len_eq (ok : SOk S) : (risen S.names.length S.ord).length = S.ord.length := (risen_perm ok.nd ok.lt).length_eq
theorem st_mark (F : Facts S) (ok : SOk S) (i : Nat) : toldOf (Km537.step (some (desk S)) (.mark i)) = if S.names.length ≤ i then (some (desk S), [-2]) else if i ∈ S.ord then (some (desk S), [-17]) else (some (desk { S with ord := S.ord ++ [i] }), [((S.ord.length + 1 : Nat) : Int)]) := by
  have e : toldOf (Km537.step (some (desk S)) (.mark i)) = toldOf (if (Km537.names (desk S)).length ≤ i then (some (desk S), Km537.say (-2)) else if (risen S.names.length S.ord).contains i then (some (desk S), Km537.say (-17)) else (some { desk S with marks := Km537.insertN i (risen S.names.length S.ord) }, Km537.say ((risen S.names.length S.ord).length + 1 : Nat))) := rfl
  rw [e, ← nlen_eq F]
  by_cases c : S.names.length ≤ i
  · rw [if_pos c, if_pos c]; rfl
  · rw [if_neg c, if_neg c]
    by_cases c2 : i ∈ S.ord
    · rw [if_pos c2, if_pos (by rw [List.contains_iff_mem, risen_mem]; exact ⟨by omega, c2⟩)]; rfl
    · have nm : i ∉ risen S.names.length S.ord := fun z => c2 (risen_mem.mp z).2
      rw [if_neg c2, if_neg (by rw [List.contains_iff_mem]; exact nm), ord_len_eq ok]
      have ei : Km537.insertN i (risen S.names.length S.ord) = risen S.names.length (S.ord ++ [i]) := by
        refine rising_eq (ins_sort i _ (risen_sorted _ _) nm) (risen_sorted _ _) fun j => ?_
        rw [ins_mem, risen_mem, risen_mem, List.mem_append, List.mem_singleton]
        constructor
        · rintro (rfl | ⟨h1, h2⟩)
          · exact ⟨by omega, .inr rfl⟩
          · exact ⟨h1, .inl h2⟩
        · rintro ⟨h1, h2 | h2⟩
          · exact .inr ⟨h1, h2⟩
          · exact .inl h2
      rw [ei]
      rfl
theorem st_unmark (F : Facts S) (ok : SOk S) (i : Nat) : toldOf (Km537.step (some (desk S)) (.unmark i)) = if S.names.length ≤ i then (some (desk S), [-2]) else if i ∈ S.ord then (some (desk { S with ord := S.ord.filter fun j => decide (j ≠ i) }), [((S.ord.filter fun j => decide (j ≠ i)).length : Int)]) else (some (desk S), [-6]) := by
  have e : toldOf (Km537.step (some (desk S)) (.unmark i)) = toldOf (if (Km537.names (desk S)).length ≤ i then (some (desk S), Km537.say (-2)) else if (risen S.names.length S.ord).contains i = false then (some (desk S), Km537.say (-6)) else (some { desk S with marks := (risen S.names.length S.ord).erase i }, Km537.say ((risen S.names.length S.ord).length - 1 : Nat))) := rfl
  rw [e, ← nlen_eq F]
  by_cases c : S.names.length ≤ i
  · rw [if_pos c, if_pos c]; rfl
  · rw [if_neg c, if_neg c]
    by_cases c2 : i ∈ S.ord
    · have mm : i ∈ risen S.names.length S.ord := risen_mem.mpr ⟨by omega, c2⟩
      rw [if_pos c2, if_neg (by rw [Bool.not_eq_false, List.contains_iff_mem]; exact mm)]
      have nd : (risen S.names.length S.ord).Nodup := (risen_sorted _ _).imp fun z => Nat.ne_of_lt z
      have ei : (risen S.names.length S.ord).erase i = risen S.names.length (S.ord.filter fun j => decide (j ≠ i)) := by
        refine rising_eq ((risen_sorted _ _).sublist List.erase_sublist) (risen_sorted _ _) fun j => ?_
        rw [nd.mem_erase_iff, risen_mem, risen_mem, List.mem_filter, decide_eq_true_eq]
        constructor
        · rintro ⟨h1, h2, h3⟩; exact ⟨h2, h3, h1⟩
        · rintro ⟨h1, h2, h3⟩; exact ⟨h3, h1, h2⟩
      have el : (risen S.names.length S.ord).length - 1 = (S.ord.filter fun j => decide (j ≠ i)).length := by
        rw [← List.length_erase_of_mem mm, ei]
        exact (risen_perm (ok.nd.sublist List.filter_sublist) fun j m => ok.lt j (List.mem_filter.mp m).1).length_eq
      rw [ei, el]
      rfl
    · rw [if_neg c2, if_pos (by rw [← Bool.not_eq_true, List.contains_iff_mem]; exact fun z => c2 (risen_mem.mp z).2)]; rfl
theorem st_apart (F : Facts S) : toldOf (Km537.step (some (desk S)) .markApart) = (some (desk { S with ord := apartUp S.names S.names.length }), [((apartUp S.names S.names.length).length : Int)]) := by
  have ea : ((List.range (Km537.names (desk S)).length).filter fun i => Km537.apart ((Km537.names (desk S)).getD i [])) = apartUp S.names S.names.length := by
    unfold apartUp
    rw [nlen_eq F]
    refine List.filter_congr fun i m => ?_
    have hi := List.mem_range.mp m
    have h : (Km537.names (desk S))[i]? = some (Km537.names (desk S))[i] := List.getElem?_eq_getElem hi
    rw [name_at F h, F.apart _ (List.getElem_mem hi), List.getD_eq_getElem?_getD, h]
    rfl
  have es : risen S.names.length (apartUp S.names S.names.length) = apartUp S.names S.names.length := by
    refine rising_eq (risen_sorted _ _) (List.Pairwise.sublist List.filter_sublist List.pairwise_lt_range) fun i => ?_
    rw [risen_mem]
    exact ⟨fun z => z.2, fun z => ⟨apart_lt z, z⟩⟩
  have e : toldOf (Km537.step (some (desk S)) .markApart) = (some { desk S with marks := (List.range (Km537.names (desk S)).length).filter fun i => Km537.apart ((Km537.names (desk S)).getD i []) }, [((((List.range (Km537.names (desk S)).length).filter fun i => Km537.apart ((Km537.names (desk S)).getD i [])).length : Nat) : Int)]) := rfl
  rw [e, ea]
  refine Prod.ext ?_ rfl
  show some _ = some (desk { S with ord := apartUp S.names S.names.length })
  unfold desk
  show some (⟨S.n, S.e, S.k, S.a, apartUp S.names S.names.length, S.rule⟩ : Km537.Desk) = some ⟨S.n, S.e, S.k, S.a, risen S.names.length (apartUp S.names S.names.length), S.rule⟩
  rw [es]
theorem st_marks (ok : SOk S) : toldOf (Km537.step (some (desk S)) .marks) = (some (desk S), (S.ord.length : Int) :: zN (risen S.names.length S.ord)) := by
  rw [← ord_len_eq ok]
  rfl
theorem st_set (F : Facts S) (v x : Nat) : toldOf (Km537.step (some (desk S)) (.set v x)) = if S.views.length ≤ v then (some (desk S), [-2]) else if mostTold (S.views.getD v []) < x then (some (desk S), [-22]) else (some (desk { S with rule := S.rule.set v x }), [(S.rule.getD v 0 : Int)]) := by
  have e : toldOf (Km537.step (some (desk S)) (.set v x)) = toldOf (match (Km537.views (desk S))[v]? with | none => (some (desk S), Km537.say (-2)) | some l => if Km537.choices l ≤ x then (some (desk S), Km537.say (-22)) else (some { desk S with rule := S.rule.set v x }, Km537.say (S.rule.getD v 0 : Nat))) := rfl
  rw [e, vlen_eq F]
  cases h : (Km537.views (desk S))[v]? with
  | none => rw [if_pos (List.getElem?_eq_none_iff.mp h)]; rfl
  | some l =>
    rw [if_neg (Nat.not_le.mpr (List.getElem?_eq_some_iff.mp h).1), view_at F h]
    simp only [choices_eq (F.even l (List.mem_of_getElem? h))]
    by_cases c : mostTold (zs l) < x
    · rw [if_pos c, if_pos (by omega)]; rfl
    · rw [if_neg c, if_neg (by omega)]; rfl
theorem st_rule : toldOf (Km537.step (some (desk S)) .rule) = (some (desk S), (S.rule.length : Int) :: zN S.rule) := rfl
theorem st_told (ok : SOk S) : toldOf (Km537.step (some (desk S)) .told) = (some (desk S), [(S.n : Int), (S.e : Int), (S.k : Int), (S.a : Int), (S.ord.length : Int)]) := by
  rw [← ord_len_eq ok]
  rfl
end
end RF

/-! ## RFInit -/
namespace RF
open PySem PySem.Spec PyProof.Rows L2
/-! ### Board.__init__ -/
abbrev sInit : Stmt := inClass (top 14) 0
def S0 (n e k a : Nat) : SB := ⟨n, e, k, a, [], List.replicate (viewsOf e (namesOf n k)).length 0⟩
/-- what the settings give, for all of them (shown by counting through) -/
structure SetOk (n e k : Nat) : Prop where
  len : ∀ r ∈ namesOf n k, 0 < r.length ∧ r.length ≤ 100
  few : (keysOf e (namesOf n k)).length < 64
  bd : ∀ v ∈ keysOf e (namesOf n k), v.length = n ∧ TS.Bd 4 v
  had : ∀ r ∈ namesOf n k, ∀ v ∈ viewsIn e r, v ∈ viewsOf e (namesOf n k)
  nfew : (namesOf n k).length < 64
def InSet (n e k a : Nat) : Prop := (3 ≤ n ∧ n ≤ 7) ∧ e ≤ 2 ∧ (1 ≤ k ∧ k ≤ 3) ∧ a ≤ 2
def spInit (P : Program) (w : World) (C : Addr) : Sp := fun vs H Q _ => ∃ (x dx : Addr) (n e k a : Nat), vs = [.ref x, .int n, .int e, .int k, .int a] ∧ H x = some (.ins C dx []) ∧ InSet n e k a ∧
  ∀ (H' : Hp) (own : List Addr), Board P w C H' x own (S0 n e k a) → (∀ y o, H y = some o → y ≠ x → H' y = some o) → (∀ y ∈ own, y = x ∨ H y = none) → Q .non H'
abbrev nInit : List Str := ["self", "places", "eyes", "robots", "moves", "ring"]
theorem scInit : FnScope nInit ["self", "places", "eyes", "robots", "moves"] (defScope sInit) := ⟨rfl, rfl, rfl, by decide +kernel, rfl, by decide +kernel, by decide +kernel⟩
theorem But.trans {x : Addr} {H H1 H2 : Hp} (a : But x H H1) (b : But x H1 H2) : But x H H2 := fun y o e n => b y o (a y o e n) n
theorem But.new {x : Addr} {H : Hp} {d : Addr} {o : HO} (h : H d = none) : But x H (L2.upd H d o) := fun y u e _ => same_new h y u e
theorem But.of_same {x : Addr} {H H1 : Hp} (s : Same H H1) : But x H H1 := fun y u e _ => s y u e
theorem But.free {x : Addr} {H H1 : Hp} (b : But x H H1) {d : Addr} (n : d ≠ x) (h : H1 d = none) : H d = none := by
  cases e : H d with
  | none => rfl
  | some o => rw [b d o e n] at h; cases h
theorem Tups.butx {x : Addr} {H H1 : Hp} {L : LA} {C dx : Addr} {fs : List (Str × V)} (h : Tups H L) (hx : H x = some (.ins C dx fs)) (b : But x H H1) : Tups H1 L := fun p m => b _ _ (h p m) (ne_kinds (h p m) hx (fun z => by cases z))
section
variable {P : Program} {w : World} {K : PySem.W.Frag} {mg : Str → Option Value} {base : Heap} {C : Addr}
theorem ok_init {f fN fV fO : Addr} {fd fdN fdV fdO : FuncData} (F : Fun K "__init__" "Board.__init__" sInit f fd) (O : Own mg) (T : Txt K mg C) (N : Def P w K mg base 4 "names_of" ["places", "robots"] spNames fN fdN) (V' : Def P w K mg base 4 "views_of" ["names", "eyes"] (spVof K) fV fdV)
    (M' : Def P w K mg base 4 "numbers_of_views" ["ring", "eyes", "views"] (spNov K) fO fdO)
    (all : ∀ n e k a, InSet n e k a → SetOk n e k) : FnOk P w K mg base CX0 5 f fd ["self", "places", "eyes", "robots", "moves"] (spInit P w C) := by
  refine F.ok scInit (fun vs H Q E h => ?_) (fun cdv A outer s H vs Q E hr h => ?_)
  · obtain ⟨x, dx, n, e, k, a, rfl, _⟩ := h
    rfl
  · refine ⟨_, pss_cons (ps_fld (pv 0) (pv 1) rfl)
      (pss_cons (ps_fld (pv 0) (pv 2) rfl)
      (pss_cons (ps_fld (pv 0) (pv 3) rfl)
      (pss_cons (ps_fld (pv 0) (pv 4) rfl)
      (pss_cons (ps_fld (pv 0) (pe_call N.ok hr rfl N.g N.kp N.b .nil pass0 (pa_cons (pv 1) (pa_cons (pv 3) pa_nil))) rfl)
      (pss_cons (ps_fld (pv 0) (pe_call V'.ok hr rfl V'.g V'.kp V'.b .nil pass0 (pa_cons (pe_fld (pv 0) rfl) (pa_cons (pv 2) pa_nil))) rfl)
      (pss_cons (ps_fld (pv 0) (pe_lc (own := [("ring", 5)]) (g := gName 5) (tt := tYes) (te := tCall (spNov K) [] E0 (tCons (tVar 5) (tCons (tVar 2) (tCons (tFld K (tVar 0) "views") tNil)))) rfl scInit.nd (pi_list (pe_fld (pv 0) rfl)) (blkOk_by (N := nInit) (sc := defScope sInit) (by decide +kernel))
          (fun _ _ _ _ _ => pg_name (i := 5) scInit.nd rfl (Or.inl rfl)) (fun _ _ _ _ _ => pts_nil)
          (fun _ _ _ _ _ => pe_call M'.ok hr rfl M'.g M'.kp M'.b .nil pass0 (pa_cons (pv 5) (pa_cons (pv 2) (pa_cons (pe_fld (pv 0) rfl) pa_nil))))) rfl)
      (pss_cons (ps_fld (pv 0) pe_dnewK rfl)
      (pss_cons (ps_fld (pv 0) (pe_op op_rep (pe_lst (pa_cons pe_int pa_nil)) (pe_callB call_len_seq (by rfl) O.len PySem.boot_len (pa_cons (pe_fld (pv 0) rfl) pa_nil))) rfl)
      (pss_cons (ps_fld (pv 0) (pe_dnewN (P := P) (w := w)) rfl)
      (pss_one (ps_fld (pv 0) pe_dnewK rfl))))))))))), ?_⟩
    obtain ⟨x, dx, n, e, k, a, rfl, hx, hin, q⟩ := h
    obtain ⟨⟨n1, n2⟩, he, ⟨k1, k2⟩, ha⟩ := id hin
    have st := all n e k a hin
    have big : (100000 : Nat) < sizeLine := by decide
    refine ⟨_, rfl, _, rfl, x, C, dx, _, rfl, hx, T.cl, T.nP, by show 0 < 1000; decide, ?_⟩
    refine ⟨_, rfl, _, rfl, x, C, dx, _, rfl, upd_same, T.cl, T.nE, by show 1 < 1000; decide, ?_⟩
    refine ⟨_, rfl, _, rfl, x, C, dx, _, rfl, upd_same, T.cl, T.nK, by show 2 < 1000; decide, ?_⟩
    refine ⟨_, rfl, _, rfl, x, C, dx, _, rfl, upd_same, T.cl, T.nA, by show 3 < 1000; decide, ?_⟩
    rw [upd_upd, upd_upd, upd_upd]
    generalize hf4 : putF "moves" (V.int (a : Int)) (putF "robots" (V.int (k : Int)) (putF "eyes" (V.int (e : Int)) (putF "places" (V.int (n : Int)) []))) = f4
    have b4 : But x H (upd H x (.ins C dx f4)) := (But.refl _ _).upd
    have x4 : upd H x (.ins C dx f4) x = some (.ins C dx f4) := upd_same
    generalize upd H x (.ins C dx f4) = H4 at b4 x4 ⊢
    -- names_of(places, robots)
    refine ⟨_, rfl, _, rfl, n, k, rfl, ⟨by omega, n2⟩, ⟨by omega, by omega⟩, fun H5 aN LN s5 m5 hN5 tN5 eN => ?_⟩
    have x5 := s5 _ _ x4
    refine ⟨_, rfl, x, C, dx, f4, rfl, x5, T.cl, T.nN, by rw [← hf4]; show 4 < 1000; decide, ?_⟩
    have xN : aN ≠ x := ne_kinds hN5 x5 (fun z => by cases z)
    have mN : H aN = none := b4.free xN m5
    have b6' : But x H5 (upd H5 x (.ins C dx (putF "names" (.ref aN) f4))) := (But.refl _ _).upd
    have x6 : upd H5 x (.ins C dx (putF "names" (.ref aN) f4)) x = some (.ins C dx (putF "names" (.ref aN) f4)) := upd_same
    have b6 := (b4.same s5).trans b6'
    have hN6 := b6' _ _ hN5 xN
    have tN6 := tN5.butx x5 b6'
    generalize upd H5 x (.ins C dx (putF "names" (.ref aN) f4)) = H6 at b6 x6 hN6 tN6 b6' ⊢
    -- views_of(self.names, eyes)
    refine ⟨_, rfl, x, C, dx, _, _, rfl, x6, T.cl, T.nN, by rw [← hf4]; rfl, _, rfl, aN, LN, e, n, rfl, SqL.of hN6, tN6, he, by omega, fun p m => st.len _ (by rw [← eN]; exact List.mem_map_of_mem m), by rw [eN]; exact st.few, by rw [eN]; exact st.bd, fun H7 aV LV s7 m7 hV7 tV7 eV => ?_⟩
    rw [eN] at eV
    have x7 := s7 _ _ x6
    refine ⟨_, rfl, x, C, dx, _, rfl, x7, T.cl, T.nV, by rw [← hf4]; show 5 < 1000; decide, ?_⟩
    have xV : aV ≠ x := ne_kinds hV7 x7 (fun z => by cases z)
    have mV : H aV = none := b6.free xV m7
    have NV : aN ≠ aV := fun z => by rw [← z, hN6] at m7; cases m7
    have b8' : But x H7 (upd H7 x (.ins C dx (putF "views" (.ref aV) (putF "names" (.ref aN) f4)))) := (But.refl _ _).upd
    have x8 : upd H7 x (.ins C dx (putF "views" (.ref aV) (putF "names" (.ref aN) f4))) x = some (.ins C dx (putF "views" (.ref aV) (putF "names" (.ref aN) f4))) := upd_same
    have b8 := (b6.same s7).trans b8'
    have hN8 := b8' _ _ (s7 _ _ hN6) xN
    have tN8 := (tN6.same s7).butx x7 b8'
    have hV8 := b8' _ _ hV7 xV
    have tV8 := tV7.butx x7 b8'
    generalize upd H7 x (.ins C dx (putF "views" (.ref aV) (putF "names" (.ref aN) f4))) = H8 at b8 x8 hN8 tN8 hV8 tV8 b8' ⊢
    -- [numbers_of_views(ring, eyes, self.views) for ring in self.names]
    refine ⟨_, rfl, x, C, dx, _, _, rfl, x8, T.cl, T.nN, by rw [← hf4]; rfl, aN, rfl, ⟨_, SqL.of hN8⟩, fun aH mH => ?_⟩
    refine lc_list (K := K) (a := aN) (xs := refs LN) (fun j H' => Same H8 H' ∧ ∃ LH : List (Addr × List Nat), H' aH = some (.lst (refH LH)) ∧ (∀ y ∈ LH, H' y.1 = some (.lst (vN y.2)) ∧ H8 y.1 = none ∧ y.1 ≠ aH) ∧ LH.map (·.2) = ((namesOf n k).take j).map fun r => (viewsIn e r).map (placeIn (viewsOf e (namesOf n k))))
      ⟨same_new mH, [], upd_same, fun y m => absurd m (by simp), rfl⟩ (fun j H' _ z => z.1.seq (SqL.of hN8)) ?_ ?_
    · rintro j y H9 hj ⟨s9, LH, hH9, tH9, eH9⟩
      obtain ⟨p, pj, rfl⟩ := refs_get hj
      have pm := List.mem_of_getElem? pj
      have pg : (namesOf n k)[j]? = some p.2 := by rw [← eN]; exact snds_at pj
      have pin := List.mem_of_getElem? pg
      have jl := (List.getElem?_eq_some_iff.mp pg).1
      obtain ⟨p1, p2⟩ := st.len _ pin
      refine ⟨rfl, _, rfl, _, rfl, _, rfl, x, C, dx, _, _, rfl, s9 _ _ x8, T.cl, T.nV, by rw [← hf4]; rfl, p.1, aV, p.2, e, LV, rfl, SqT.of (s9 _ _ (tN8 p pm)), p1, p2, he, SqL.of (s9 _ _ hV8), tV8.same s9, fun v mv => by rw [eV]; exact st.had _ pin v mv, fun H10 q10 s10 n10 e10 => ?_⟩
      rw [eV] at e10
      have q8 : H8 q10 = none := s9.free n10
      have qa : q10 ≠ aH := fun z => by rw [z, hH9] at n10; cases n10
      have ll : LH.length < 64 := by
        have z1 := congrArg List.length eH9
        rw [List.length_map, List.length_map, List.length_take] at z1
        have := st.nfew
        omega
      refine ⟨_, s10 _ _ hH9, by unfold refH; rw [List.length_map]; omega, same_upd (s9.trans s10) mH, LH ++ [(q10, (viewsIn e p.2).map (placeIn (viewsOf e (namesOf n k))))], ?_, fun y m => ?_, ?_⟩
      · rw [upd_same]
        unfold refH
        rw [List.map_append]
        rfl
      · rcases List.mem_append.mp m with m | m
        · obtain ⟨t1, t2, t3⟩ := tH9 y m
          exact ⟨by rw [upd_ne t3]; exact s10 _ _ t1, t2, t3⟩
        · rw [List.mem_singleton.mp m]
          exact ⟨by rw [upd_ne qa]; exact e10, q8, qa⟩
      · rw [List.map_append, eH9, List.take_succ_eq_append_getElem jl, List.map_append, (List.getElem?_eq_some_iff.mp pg).2]
        rfl
    · rintro H9 ⟨s9, LH, hH9, tH9, eH9⟩
      have lN : (refs LN).length = (namesOf n k).length := by rw [refs_len, snd_len eN]
      rw [lN, List.take_length] at eH9
      have x9 := s9 _ _ x8
      have xH : aH ≠ x := ne_kinds hH9 x9 (fun z => by cases z)
      have mH0 : H aH = none := b8.free xH mH
      refine ⟨_, rfl, x, C, dx, _, rfl, x9, T.cl, T.nH, by rw [← hf4]; show 6 < 1000; decide, ?_⟩
      have bA' : But x H9 (upd H9 x (.ins C dx (putF "had" (.ref aH) (putF "views" (.ref aV) (putF "names" (.ref aN) f4))))) := (But.refl _ _).upd
      have xA : upd H9 x (.ins C dx (putF "had" (.ref aH) (putF "views" (.ref aV) (putF "names" (.ref aN) f4)))) x = some (.ins C dx (putF "had" (.ref aH) (putF "views" (.ref aV) (putF "names" (.ref aN) f4)))) := upd_same
      have bA := (b8.same s9).trans bA'
      have hNA := bA' _ _ (s9 _ _ hN8) xN
      have tNA := (tN8.same s9).butx x9 bA'
      have hVA := bA' _ _ (s9 _ _ hV8) xV
      have tVA := (tV8.same s9).butx x9 bA'
      have hHA := bA' _ _ hH9 xH
      have tHA : ∀ y ∈ LH, upd H9 x (.ins C dx (putF "had" (.ref aH) (putF "views" (.ref aV) (putF "names" (.ref aN) f4)))) y.1 = some (.lst (vN y.2)) := fun y m => bA' _ _ (tH9 y m).1 (ne_kinds (tH9 y m).1 x9 (fun z => by cases z))
      generalize upd H9 x (.ins C dx (putF "had" (.ref aH) (putF "views" (.ref aV) (putF "names" (.ref aN) f4)))) = HA at bA xA hNA tNA hVA tVA hHA tHA bA' ⊢
      -- {}
      intro aM mM
      have sM := same_new (o := .dK []) mM
      have xM : aM ≠ x := fun z => by rw [z, xA] at mM; cases mM
      refine ⟨_, rfl, x, C, dx, _, rfl, sM _ _ xA, T.cl, T.nM, by rw [← hf4]; show 7 < 1000; decide, ?_⟩
      generalize hfB : putF "marked" (.ref aM) (putF "had" (.ref aH) (putF "views" (.ref aV) (putF "names" (.ref aN) f4))) = fB
      have bB' : But x HA (upd (upd HA aM (.dK [])) x (.ins C dx fB)) := (But.new mM).upd
      have xB : upd (upd HA aM (.dK [])) x (.ins C dx fB) x = some (.ins C dx fB) := upd_same
      have hMB : upd (upd HA aM (.dK [])) x (.ins C dx fB) aM = some (.dK []) := by rw [upd_ne xM]; exact upd_same
      generalize upd (upd HA aM (.dK [])) x (.ins C dx fB) = HB at bB' xB hMB ⊢
      have hVB := bB' _ _ hVA xV
      -- [0] * len(self.views)
      refine ⟨by show 1 ≤ sizeLine; decide, fun l ml => ?_⟩
      have sl := same_new (o := .lst [V.int 0]) ml
      refine ⟨_, rfl, x, C, dx, _, _, rfl, sl _ _ xB, T.cl, T.nV, by rw [← hfB, ← hf4]; rfl, aV, refs LV, rfl, .inl (SqL.of (sl _ _ hVB)), ?_⟩
      have few : LV.length < 64 := by
        rw [snd_len eV]
        have z := (sortT_perm (keysOf e (namesOf n k))).length_eq
        have := st.few
        unfold viewsOf
        omega
      have lr : (refs LV).length = LV.length := refs_len LV
      refine ⟨l, _, _, rfl, rfl, upd_same, by rw [lr]; omega, by rw [lr]; omega, by rw [lr, Int.toNat_natCast]; show 1 * LV.length ≤ sizeLine; omega, fun aR mR => ?_⟩
      have rep : (List.replicate ((refs LV).length : Int).toNat [V.int 0]).flatten = (S0 n e k a).rule.map fun y : Nat => V.int y := by
        rw [lr, Int.toNat_natCast, flat_rep, snd_len eV]
        show _ = (List.replicate _ 0).map _
        rw [List.map_replicate]
        rfl
      rw [rep]
      have sR := sl.trans (same_new (o := .lst ((S0 n e k a).rule.map fun y : Nat => V.int y)) mR)
      have mR' : HB aR = none := sl.free mR
      have hRC : upd (upd HB l (.lst [V.int 0])) aR (.lst ((S0 n e k a).rule.map fun y : Nat => V.int y)) aR = some (.lst ((S0 n e k a).rule.map fun y : Nat => V.int y)) := upd_same
      generalize upd (upd HB l (.lst [V.int 0])) aR (.lst ((S0 n e k a).rule.map fun y : Nat => V.int y)) = HC at sR hRC ⊢
      have xR : aR ≠ x := fun z => by rw [z, xB] at mR'; cases mR'
      have mR0 : HA aR = none := bB'.free xR mR'
      refine ⟨_, rfl, x, C, dx, _, rfl, sR _ _ xB, T.cl, T.nR, by rw [← hfB, ← hf4]; show 8 < 1000; decide, ?_⟩
      have bD' : But x HC (upd HC x (.ins C dx (putF "rule" (.ref aR) fB))) := (But.refl _ _).upd
      have xD : upd HC x (.ins C dx (putF "rule" (.ref aR) fB)) x = some (.ins C dx (putF "rule" (.ref aR) fB)) := upd_same
      generalize upd HC x (.ins C dx (putF "rule" (.ref aR) fB)) = HD at bD' xD ⊢
      have bBD : But x HB HD := (But.of_same sR).trans bD'
      -- {}
      intro aK mK
      have sK := same_new (o := NestO P w aK []) mK
      have xK : aK ≠ x := fun z => by rw [z, xD] at mK; cases mK
      refine ⟨_, rfl, x, C, dx, _, rfl, sK _ _ xD, T.cl, T.nY, by rw [← hfB, ← hf4]; show 9 < 1000; decide, ?_⟩
      have bE' : But x HD (upd (upd HD aK (NestO P w aK [])) x (.ins C dx (putF "known_moves" (.ref aK) (putF "rule" (.ref aR) fB)))) := (But.new mK).upd
      have xE : upd (upd HD aK (NestO P w aK [])) x (.ins C dx (putF "known_moves" (.ref aK) (putF "rule" (.ref aR) fB))) x = some (.ins C dx (putF "known_moves" (.ref aK) (putF "rule" (.ref aR) fB))) := upd_same
      have hKE : upd (upd HD aK (NestO P w aK [])) x (.ins C dx (putF "known_moves" (.ref aK) (putF "rule" (.ref aR) fB))) aK = some (NestO P w aK []) := by rw [upd_ne xK]; exact upd_same
      generalize upd (upd HD aK (NestO P w aK [])) x (.ins C dx (putF "known_moves" (.ref aK) (putF "rule" (.ref aR) fB))) = HE at bE' xE hKE ⊢
      -- {}
      intro aQ mQ
      have sQ := same_new (o := .dK []) mQ
      have xQ : aQ ≠ x := fun z => by rw [z, xE] at mQ; cases mQ
      refine ⟨_, rfl, x, C, dx, _, rfl, sQ _ _ xE, T.cl, T.nQ, by rw [← hfB, ← hf4]; show 10 < 1000; decide, ?_⟩
      have bF' : But x HE (upd (upd HE aQ (.dK [])) x (.ins C dx (putF "known_sure" (.ref aQ) (putF "known_moves" (.ref aK) (putF "rule" (.ref aR) fB))))) := (But.new mQ).upd
      have xF : upd (upd HE aQ (.dK [])) x (.ins C dx (putF "known_sure" (.ref aQ) (putF "known_moves" (.ref aK) (putF "rule" (.ref aR) fB)))) x = some (.ins C dx (putF "known_sure" (.ref aQ) (putF "known_moves" (.ref aK) (putF "rule" (.ref aR) fB)))) := upd_same
      have hQF : upd (upd HE aQ (.dK [])) x (.ins C dx (putF "known_sure" (.ref aQ) (putF "known_moves" (.ref aK) (putF "rule" (.ref aR) fB)))) aQ = some (.dK []) := by rw [upd_ne xQ]; exact upd_same
      generalize upd (upd HE aQ (.dK [])) x (.ins C dx (putF "known_sure" (.ref aQ) (putF "known_moves" (.ref aK) (putF "rule" (.ref aR) fB)))) = HF at bF' xF hQF ⊢
      have bBF : But x HB HF := (bBD.trans bE').trans bF'
      have bAF : But x HA HF := bB'.trans bBF
      have mM0 : H aM = none := bA.free xM mM
      have mK0 : H aK = none := ((bA.trans bB').trans bBD).free xK mK
      have mQ0 : H aQ = none := (((bA.trans bB').trans bBD).trans bE').free xQ mQ
      have offA : ∀ {y : Addr} {u : HO}, HA y = some u → y ≠ aR := fun {y u} e z => by rw [z, mR0] at e; cases e
      refine q HF (BP.own ⟨dx, aN, aV, aH, aM, aR, aK, aQ, putF "known_sure" (.ref aQ) (putF "known_moves" (.ref aK) (putF "rule" (.ref aR) fB)), LN, LV, LH, [], [], []⟩ x) ⟨⟨dx, aN, aV, aH, aM, aR, aK, aQ, putF "known_sure" (.ref aQ) (putF "known_moves" (.ref aK) (putF "rule" (.ref aR) fB)), LN, LV, LH, [], [], []⟩, ⟨xF, by rw [← hfB, ← hf4]; show 11 ≤ 900; decide, by rw [← hfB, ← hf4]; rfl, by rw [← hfB, ← hf4]; rfl, by rw [← hfB, ← hf4]; rfl, by rw [← hfB, ← hf4]; rfl, by rw [← hfB, ← hf4]; rfl, by rw [← hfB, ← hf4]; rfl, by rw [← hfB, ← hf4]; rfl, by rw [← hfB, ← hf4]; rfl, by rw [← hfB, ← hf4]; rfl, by rw [← hfB, ← hf4]; rfl, by rw [← hfB, ← hf4]; rfl,
        bAF _ _ hNA xN, tNA.butx xA bAF, eN, bAF _ _ hVA xV, tVA.butx xA bAF, eV, bAF _ _ hHA xH, fun y m => bAF _ _ (tHA y m) (ne_kinds (tHA y m) xA (fun z => by cases z)), ?_, bBF _ _ hMB xM, rfl, ((bD'.trans bE').trans bF') _ _ hRC xR, bF' _ _ hKE xK, fun y m => absurd m (by simp), fun y m => absurd m (by simp), List.nodup_nil, hQF, List.nodup_nil, fun y m => absurd m (by simp), fun y m => absurd m (by simp), fun y m => absurd m (by simp), fun y m => absurd m (by simp), fun y m => ?_, fun z => ?_⟩, rfl⟩ (fun y o ey ny => bAF _ _ (bA _ _ ey ny) ny) (fun y m => ?_)
      · have eS : (S0 n e k a).names = namesOf n k := rfl
        rw [eH9, eS]
        refine List.ext_getElem? fun i => ?_
        rw [List.getElem?_map, List.getElem?_map]
        by_cases c : i < (namesOf n k).length
        · rw [List.getElem?_range c, List.getElem?_eq_getElem c]
          show some _ = some (whoOf (S0 n e k a) i)
          unfold whoOf
          rw [eS, List.getD_eq_getElem?_getD, List.getElem?_eq_getElem c]
          rfl
        · rw [List.getElem?_eq_none (by omega), List.getElem?_eq_none (by rw [List.length_range]; omega)]
          rfl
      · unfold BP.lists at m
        simp only [List.mem_cons, List.map_nil, List.append_nil] at m
        rcases m with rfl | rfl | rfl | m
        · exact offA hNA
        · exact offA hVA
        · exact offA hHA
        · obtain ⟨z, mz, rfl⟩ := List.mem_map.mp m
          exact offA (tHA z mz)
      · have z : aM = aQ := z
        rw [← z, (bBD.trans bE') _ _ hMB xM] at mQ
        cases mQ
      · unfold BP.own BP.lists at m
        simp only [List.mem_cons, List.map_nil, List.append_nil] at m
        rcases m with rfl | rfl | rfl | rfl | rfl | rfl | rfl | rfl | m
        · exact .inl rfl
        · exact .inr mN
        · exact .inr mV
        · exact .inr mH0
        · exact .inr mM0
        · exact .inr (bA.free xR mR0)
        · exact .inr mK0
        · exact .inr mQ0
        · obtain ⟨z, mz, rfl⟩ := List.mem_map.mp m
          refine .inr (b8.free ?_ (tH9 z mz).2.1)
          exact ne_kinds (tH9 z mz).1 x9 (fun z => by cases z)
end
end RF

/-! ## RFSteps2 -/
namespace RF
variable {S : SB}
theorem SOk.facts (ok : SOk S) : Facts S := RF.facts ok.n ok.e ok.k
theorem ok_at (ok : SOk S) {x : Nat} (h : ¬ 2 < x) : SOk { S with a := x } := ⟨ok.n, ok.e, ok.k, Nat.not_lt.mp h, ok.nd, ok.lt, ok.rl, ok.le⟩
theorem ok_mark (ok : SOk S) {i : Nat} (h : ¬ S.names.length ≤ i) (n : i ∉ S.ord) : SOk { S with ord := S.ord ++ [i] } := by
  refine ⟨ok.n, ok.e, ok.k, ok.a, ?_, fun j m => ?_, ok.rl, ok.le⟩
  · rw [List.nodup_append]
    refine ⟨ok.nd, by simp, fun a ma b mb => ?_⟩
    rw [List.mem_singleton.mp mb]
    rintro rfl
    exact n ma
  · rcases List.mem_append.mp m with m | m
    · exact ok.lt j m
    · rw [List.mem_singleton.mp m]
      exact Nat.not_le.mp h
theorem ok_unmark (ok : SOk S) (i : Nat) : SOk { S with ord := S.ord.filter fun j => decide (j ≠ i) } := ⟨ok.n, ok.e, ok.k, ok.a, ok.nd.sublist List.filter_sublist, fun j m => ok.lt j (List.mem_filter.mp m).1, ok.rl, ok.le⟩
theorem ok_apartS (ok : SOk S) : SOk { S with ord := apartUp S.names S.names.length } := ⟨ok.n, ok.e, ok.k, ok.a, List.nodup_range.sublist List.filter_sublist, fun _ m => apart_lt m, ok.rl, ok.le⟩
theorem ok_set (ok : SOk S) (v x : Nat) (h : ¬ mostTold (S.views.getD v []) < x) : SOk { S with rule := S.rule.set v x } := by
  refine ⟨ok.n, ok.e, ok.k, ok.a, ok.nd, ok.lt, by show (S.rule.set v x).length = _; rw [List.length_set]; exact ok.rl, fun u y e0 => ?_⟩
  have e2 : (S.rule.set v x)[u]? = some y := e0
  clear e0
  rw [List.getElem?_set] at e2
  split at e2
  · next c =>
    subst c
    split at e2
    · cases Option.some.inj e2
      exact Nat.not_lt.mp h
    · cases e2
  · exact ok.le u y e2
theorem ok_rule (ok : SOk S) {r : List Nat} (h1 : r.length = S.views.length) (h2 : ∀ v x, r[v]? = some x → x ≤ mostTold (S.views.getD v [])) : SOk { S with rule := r } := ⟨ok.n, ok.e, ok.k, ok.a, ok.nd, ok.lt, h1, h2⟩
instance (n e k a : Nat) : Decidable (InSet n e k a) := by unfold InSet; infer_instance
theorem ok_S0 {n e k a : Nat} (h : InSet n e k a) : SOk (S0 n e k a) := by
  refine ⟨h.1, h.2.1, h.2.2.1, h.2.2.2, List.nodup_nil, fun i m => absurd m (by simp [S0]), ?_, fun v x m => ?_⟩
  · show (List.replicate _ 0).length = _
    rw [List.length_replicate]
    rfl
  · have := List.eq_of_mem_replicate (List.mem_of_getElem? m)
    omega
/-- begin -/
theorem st_begin (st : Km537.State) (n e k a : Nat) : toldOf (Km537.step st (.begin_ n e k a)) = if InSet n e k a then (some (desk (S0 n e k a)), [((S0 n e k a).views.length : Int)]) else (st, [-22]) := by
  have e0 : toldOf (Km537.step st (.begin_ n e k a)) = toldOf (if n < 3 ∨ Km537.PLACES < n ∨ 2 < e ∨ k = 0 ∨ Km537.ROBOTS < k ∨ 2 < a then (st, Km537.say (-22)) else (some { (⟨n, e, k, a, [], []⟩ : Km537.Desk) with rule := List.replicate (Km537.views ⟨n, e, k, a, [], []⟩).length 0 }, Km537.say ((Km537.views ⟨n, e, k, a, [], []⟩).length : Nat))) := rfl
  rw [e0]
  by_cases c : InSet n e k a
  · have F := (ok_S0 c).facts
    obtain ⟨⟨h1, h2⟩, h3, ⟨h4, h5⟩, h6⟩ := id c
    have P7 : Km537.PLACES = 7 := rfl
    have R3 : Km537.ROBOTS = 3 := rfl
    rw [if_pos c, if_neg (by rw [P7, R3]; omega)]
    have vl : (Km537.views ⟨n, e, k, a, [], []⟩).length = (S0 n e k a).views.length := (vlen_eq F).symm
    rw [vl]
    refine Prod.ext ?_ rfl
    show some (⟨n, e, k, a, [], List.replicate (S0 n e k a).views.length 0⟩ : Km537.Desk) = some ⟨n, e, k, a, risen (S0 n e k a).names.length [], List.replicate (viewsOf e (namesOf n k)).length 0⟩
    have er : risen (S0 n e k a).names.length [] = [] := by
      unfold risen
      exact List.filter_eq_nil_iff.mpr fun x _ => by simp
    rw [er]
    rfl
  · rw [if_neg c, if_pos]
    · rfl
    · unfold InSet at c
      show n < 3 ∨ 7 < n ∨ 2 < e ∨ k = 0 ∨ 3 < k ∨ 2 < a
      omega
/-- before a begin -/
theorem st_early (x : Km537.Call) (h : ∀ n e k a, x ≠ .begin_ n e k a) : toldOf (Km537.step none x) = (none, [-11]) := by
  cases x <;> first | rfl | exact absurd rfl (h _ _ _ _)
/-! what the defs' proofs ask of the settings -/
theorem short_names (ok : SOk S) : ∀ r ∈ S.names, 0 < r.length ∧ r.length ≤ 100 := fun r m => by
  have F := ok.facts
  rw [F.names] at m
  obtain ⟨l, ml, rfl⟩ := List.mem_map.mp m
  rw [zs_len, F.nlen l ml]
  have := ok.n
  omega
theorem short_views (ok : SOk S) : ∀ r ∈ S.views, 0 < r.length ∧ r.length ≤ 100 := fun r m => by
  have F := ok.facts
  rw [F.views] at m
  obtain ⟨l, ml, rfl⟩ := List.mem_map.mp m
  rw [zs_len, F.vlen l ml]
  have := ok.n
  omega
theorem views_had (ok : SOk S) : ∀ r ∈ S.names, ∀ v ∈ viewsIn S.e r, v ∈ S.views := fun r m v mv => by
  have F := ok.facts
  rw [F.names] at m
  obtain ⟨l, ml, rfl⟩ := List.mem_map.mp m
  rw [F.vin l ml] at mv
  obtain ⟨u, mu, rfl⟩ := List.mem_map.mp mv
  rw [F.views]
  exact List.mem_map_of_mem (F.has l ml u mu)
theorem set_ok (n e k a : Nat) (h : InSet n e k a) : SetOk n e k := by
  have ok := ok_S0 h
  have F := ok.facts
  exact ⟨short_names ok, F.few, fun v m => ⟨(F.bd v m).1, (F.bd v m).2⟩, views_had ok, names_len ok⟩
end RF

/-! ## RFMoveB -/
namespace RF
/-! ### one robot goes from p to q, over whole numbers -/
def moveI (a : List Int) (p q : Nat) : List Int := (a.set p (a.getD p 0 - 1)).set q ((a.set p (a.getD p 0 - 1)).getD q 0 + 1)
def shift (a : List Int) (w : List (Nat × Nat)) : List Int := w.foldl (fun a m => moveI a m.1 m.2) a
theorem moveI_len (a : List Int) (p q : Nat) : (moveI a p q).length = a.length := by unfold moveI; rw [List.length_set, List.length_set]
theorem set_getD {a : List Int} {p i : Nat} {x : Int} : (a.set p x).getD i 0 = if p = i ∧ i < a.length then x else a.getD i 0 := by
  rw [List.getD_eq_getElem?_getD, List.getElem?_set, List.getD_eq_getElem?_getD]
  by_cases c : p = i
  · subst c
    rw [if_pos rfl]
    by_cases c2 : p < a.length
    · rw [if_pos c2, if_pos ⟨rfl, c2⟩]; rfl
    · rw [if_neg c2, if_neg (fun z => c2 z.2), List.getElem?_eq_none (by omega)]
  · rw [if_neg c, if_neg (fun z => c z.1)]
theorem moveI_at (a : List Int) (p q : Nat) {i : Nat} (h : i < a.length) : (moveI a p q).getD i 0 = a.getD i 0 - (if p = i then 1 else 0) + (if q = i then 1 else 0) := by
  unfold moveI
  rw [set_getD, List.length_set]
  by_cases c : q = i
  · subst c
    rw [if_pos ⟨rfl, h⟩, if_pos rfl, set_getD]
    by_cases c2 : p = q
    · subst c2; rw [if_pos ⟨rfl, h⟩, if_pos rfl]
    · rw [if_neg (fun z => c2 z.1), if_neg c2]; omega
  · rw [if_neg (fun z => c z.1), if_neg c, set_getD]
    by_cases c2 : p = i
    · subst c2; rw [if_pos ⟨rfl, h⟩, if_pos rfl]; omega
    · rw [if_neg (fun z => c2 z.1), if_neg c2]; omega
theorem ext_getD {a b : List Int} (h : a.length = b.length) (e : ∀ i, i < a.length → a.getD i 0 = b.getD i 0) : a = b := by
  refine List.ext_getElem h fun i h1 h2 => ?_
  have z := e i h1
  rw [List.getD_eq_getElem?_getD, List.getElem?_eq_getElem h1, List.getD_eq_getElem?_getD, List.getElem?_eq_getElem h2] at z
  exact z
theorem moveI_comm (a : List Int) (p q r s : Nat) : moveI (moveI a p q) r s = moveI (moveI a r s) p q := by
  refine ext_getD (by simp only [moveI_len]) fun i hi => ?_
  simp only [moveI_len] at hi
  rw [moveI_at _ _ _ (by rw [moveI_len]; exact hi), moveI_at _ _ _ hi, moveI_at _ _ _ (by rw [moveI_len]; exact hi), moveI_at _ _ _ hi]
  omega
theorem shift_perm {w v : List (Nat × Nat)} (h : w.Perm v) (a : List Int) : shift a w = shift a v := by
  induction h generalizing a with
  | nil => rfl
  | cons x _ ih => exact ih _
  | swap x y l =>
    show shift (moveI (moveI a y.1 y.2) x.1 x.2) l = shift (moveI (moveI a x.1 x.2) y.1 y.2) l
    rw [moveI_comm]
  | trans _ _ h1 h2 => exact (h1 a).trans (h2 a)
theorem shift_len : ∀ (w : List (Nat × Nat)) (a : List Int), (shift a w).length = a.length
  | [], _ => rfl
  | _ :: w, _ => (shift_len w _).trans (moveI_len _ _ _)
theorem one_move (b : List Int) (p : Nat) (s : Int) : oneGone b p s = moveI b p (thereOf b.length p s) := rfl
/-! ### where each goes, robot by robot -/
def picks (n : Nat) : List (Nat × List Int) → List (List (Nat × Nat))
  | [] => [[]]
  | r :: g => r.2.flatMap fun s => (picks n g).map fun c => (r.1, thereOf n r.1 s) :: c
theorem rings_picks {n : Nat} : ∀ (g : List (Nat × List Int)) (rings : List (List Int)) (x : List Int), (∀ b ∈ rings, b.length = n) → (x ∈ g.foldl (fun rings r => goneAll rings r.1 r.2) rings ↔ ∃ b ∈ rings, ∃ c ∈ picks n g, x = shift b c)
  | [], rings, x, _ => by
    constructor
    · exact fun h => ⟨x, h, [], List.mem_singleton.mpr rfl, rfl⟩
    · rintro ⟨b, mb, c, mc, rfl⟩
      rw [List.mem_singleton.mp mc]
      exact mb
  | r :: g, rings, x, h => by
    rw [List.foldl_cons, rings_picks g _ x]
    · constructor
      · rintro ⟨b', mb', c, mc, rfl⟩
        obtain ⟨s, ms, mb'⟩ := List.mem_flatMap.mp mb'
        obtain ⟨b, mb, rfl⟩ := List.mem_map.mp mb'
        refine ⟨b, mb, (r.1, thereOf n r.1 s) :: c, List.mem_flatMap.mpr ⟨s, ms, List.mem_map_of_mem mc⟩, ?_⟩
        rw [one_move, h b mb]
        rfl
      · rintro ⟨b, mb, c, mc, rfl⟩
        obtain ⟨s, ms, mc⟩ := List.mem_flatMap.mp mc
        obtain ⟨c', mc', rfl⟩ := List.mem_map.mp mc
        refine ⟨oneGone b r.1 s, List.mem_flatMap.mpr ⟨s, ms, List.mem_map_of_mem mb⟩, c', mc', ?_⟩
        rw [one_move, h b mb]
        rfl
    · intro b' mb'
      obtain ⟨s, ms, mb'⟩ := List.mem_flatMap.mp mb'
      obtain ⟨b, mb, rfl⟩ := List.mem_map.mp mb'
      rw [oneGone_len]
      exact h b mb
theorem after_picks (ns : List Int) (g : List (Nat × List Int)) (x : List Int) : x ∈ ringsAfter ns g ↔ ∃ c ∈ picks ns.length g, x = shift ns c := by
  unfold ringsAfter
  rw [rings_picks (n := ns.length) g [ns] x fun b mb => by rw [List.mem_singleton.mp mb]]
  constructor
  · rintro ⟨b, mb, c, mc, rfl⟩
    rw [List.mem_singleton.mp mb]
    exact ⟨c, mc, rfl⟩
  · rintro ⟨c, mc, rfl⟩
    exact ⟨ns, List.mem_singleton.mpr rfl, c, mc, rfl⟩
theorem picks_append {n : Nat} : ∀ (g h : List (Nat × List Int)) (c : List (Nat × Nat)), c ∈ picks n (g ++ h) ↔ ∃ a ∈ picks n g, ∃ b ∈ picks n h, c = a ++ b
  | [], h, c => by
    constructor
    · exact fun m => ⟨[], List.mem_singleton.mpr rfl, c, m, rfl⟩
    · rintro ⟨a, ma, b, mb, rfl⟩
      rw [List.mem_singleton.mp ma]
      exact mb
  | r :: g, h, c => by
    show c ∈ r.2.flatMap (fun s => (picks n (g ++ h)).map fun c => (r.1, thereOf n r.1 s) :: c) ↔ _
    constructor
    · intro m
      obtain ⟨s, ms, m⟩ := List.mem_flatMap.mp m
      obtain ⟨c, mc, rfl⟩ := List.mem_map.mp m
      obtain ⟨a, ma, b, mb, rfl⟩ := (picks_append g h c).mp mc
      exact ⟨(r.1, thereOf n r.1 s) :: a, List.mem_flatMap.mpr ⟨s, ms, List.mem_map_of_mem ma⟩, b, mb, rfl⟩
    · rintro ⟨a, ma, b, mb, rfl⟩
      obtain ⟨s, ms, ma⟩ := List.mem_flatMap.mp ma
      obtain ⟨a', ma', rfl⟩ := List.mem_map.mp ma
      exact List.mem_flatMap.mpr ⟨s, ms, List.mem_map.mpr ⟨a' ++ b, (picks_append g h _).mpr ⟨a', ma', b, mb, rfl⟩, rfl⟩⟩
theorem picks_from {n : Nat} : ∀ (g : List (Nat × List Int)) (c : List (Nat × Nat)), c ∈ picks n g → c.map (·.1) = g.map (·.1)
  | [], c, m => by rw [List.mem_singleton.mp m]; rfl
  | r :: g, c, m => by
    obtain ⟨s, ms, m⟩ := List.mem_flatMap.mp m
    obtain ⟨c, mc, rfl⟩ := List.mem_map.mp m
    rw [List.map_cons, List.map_cons, picks_from g c mc]
/-! ### those of one place -/
theorem rep_splits {n p : Nat} {st : List Int} (l1 : st ≠ []) (l2 : st.length ≤ 2) : ∀ (j : Nat) (c : List (Nat × Nat)), c ∈ picks n (List.replicate j (p, st)) → ∃ b ∈ Km535.splits p (st.map (thereOf n p)) j, c.Perm b
  | 0, c, m => by
    have e : c = [] := List.mem_singleton.mp m
    subst e
    match st, l1, l2 with
    | [s], _, _ => exact ⟨[], List.mem_singleton.mpr rfl, .nil⟩
    | [s, s2], _, _ => exact ⟨[], List.mem_singleton.mpr rfl, .nil⟩
  | j + 1, c, m => by
    obtain ⟨s, ms, m⟩ := List.mem_flatMap.mp m
    obtain ⟨c, mc, rfl⟩ := List.mem_map.mp m
    obtain ⟨b, mb, pb⟩ := rep_splits l1 l2 j c mc
    match st, l1, l2, ms, mb with
    | [s1], _, _, ms, mb =>
      have es := List.mem_singleton.mp ms
      subst es
      have eb : b = List.replicate j (p, thereOf n p s) := List.mem_singleton.mp mb
      subst eb
      exact ⟨List.replicate (j + 1) (p, thereOf n p s), List.mem_singleton.mpr rfl, by rw [List.replicate_succ]; exact pb.cons _⟩
    | [s1, s2], _, _, ms, mb =>
      obtain ⟨k, mk, rfl⟩ := List.mem_map.mp mb
      have hk := List.mem_range.mp mk
      rcases List.mem_cons.mp ms with rfl | ms
      · refine ⟨_, List.mem_map.mpr ⟨k + 1, List.mem_range.mpr (by omega), rfl⟩, ?_⟩
        rw [show j + 1 - (k + 1) = j - k by omega, List.replicate_succ]
        exact pb.cons _
      · rw [List.mem_singleton.mp ms]
        refine ⟨_, List.mem_map.mpr ⟨k, List.mem_range.mpr (by omega), rfl⟩, ?_⟩
        rw [show j + 1 - k = (j - k) + 1 by omega, List.replicate_succ]
        exact (pb.cons _).trans List.perm_middle.symm
theorem picks_rep {n p : Nat} {st : List Int} : ∀ (c : List (Nat × Nat)), (∀ m ∈ c, ∃ s ∈ st, m = (p, thereOf n p s)) → c ∈ picks n (List.replicate c.length (p, st))
  | [], _ => List.mem_singleton.mpr rfl
  | m :: c, h => by
    obtain ⟨s, ms, rfl⟩ := h m List.mem_cons_self
    rw [List.length_cons, List.replicate_succ]
    exact List.mem_flatMap.mpr ⟨s, ms, List.mem_map_of_mem (picks_rep c fun x mx => h x (List.mem_cons_of_mem _ mx))⟩
theorem splits_rep {n p : Nat} {st : List Int} (l1 : st ≠ []) (l2 : st.length ≤ 2) (j : Nat) (b : List (Nat × Nat)) (h : b ∈ Km535.splits p (st.map (thereOf n p)) j) : b ∈ picks n (List.replicate j (p, st)) := by
  match st, l1, l2, h with
  | [s], _, _, h =>
    have eb : b = List.replicate j (p, thereOf n p s) := List.mem_singleton.mp h
    subst eb
    have z := picks_rep (n := n) (p := p) (st := [s]) (List.replicate j (p, thereOf n p s)) fun m mm => ⟨s, List.mem_singleton.mpr rfl, List.eq_of_mem_replicate mm⟩
    rw [List.length_replicate] at z
    exact z
  | [s, s2], _, _, h =>
    obtain ⟨k, mk, rfl⟩ := List.mem_map.mp h
    have hk := List.mem_range.mp mk
    have z := picks_rep (n := n) (p := p) (st := [s, s2]) (List.replicate k (p, thereOf n p s) ++ List.replicate (j - k) (p, thereOf n p s2)) fun m mm => by
      rcases List.mem_append.mp mm with mm | mm
      · exact ⟨s, by simp, List.eq_of_mem_replicate mm⟩
      · exact ⟨s2, by simp, List.eq_of_mem_replicate mm⟩
    rw [List.length_append, List.length_replicate, List.length_replicate, show k + (j - k) = j by omega] at z
    exact z
/-! ### place by place -/
def joins (here : Nat → List (List (Nat × Nat))) : List Nat → List (List (Nat × Nat))
  | [] => [[]]
  | p :: E => (here p).flatMap fun b => (joins here E).map fun t => b ++ t
theorem fold_joins (here : Nat → List (List (Nat × Nat))) : ∀ (E : List Nat) (W : List (List (Nat × Nat))) (w : List (Nat × Nat)), w ∈ E.foldl (fun w p => w.flatMap fun a => (here p).map fun b => a ++ b) W ↔ ∃ a ∈ W, ∃ t ∈ joins here E, w = a ++ t
  | [], W, w => by
    constructor
    · exact fun m => ⟨w, m, [], List.mem_singleton.mpr rfl, (List.append_nil w).symm⟩
    · rintro ⟨a, ma, t, mt, rfl⟩
      rw [List.mem_singleton.mp mt, List.append_nil]
      exact ma
  | p :: E, W, w => by
    rw [List.foldl_cons, fold_joins here E]
    constructor
    · rintro ⟨a', ma', t, mt, rfl⟩
      obtain ⟨a, ma, ma'⟩ := List.mem_flatMap.mp ma'
      obtain ⟨b, mb, rfl⟩ := List.mem_map.mp ma'
      exact ⟨a, ma, b ++ t, List.mem_flatMap.mpr ⟨b, mb, List.mem_map_of_mem mt⟩, List.append_assoc _ _ _⟩
    · rintro ⟨a, ma, t', mt', rfl⟩
      obtain ⟨b, mb, mt'⟩ := List.mem_flatMap.mp mt'
      obtain ⟨t, mt, rfl⟩ := List.mem_map.mp mt'
      exact ⟨a ++ b, List.mem_flatMap.mpr ⟨a, ma, List.mem_map_of_mem mb⟩, t, mt, (List.append_assoc _ _ _).symm⟩
section
variable {n : Nat} {st : Nat → List Int} {cnt : Nat → Nat}
/-- the robots of the places E -/
def robots (st : Nat → List Int) (cnt : Nat → Nat) (E : List Nat) : List (Nat × List Int) := E.flatMap fun p => List.replicate (cnt p) (p, st p)
theorem robots_cons (p : Nat) (E : List Nat) : robots st cnt (p :: E) = List.replicate (cnt p) (p, st p) ++ robots st cnt E := rfl
/-- some go -/
def hereSome (n : Nat) (st : Nat → List Int) (cnt : Nat → Nat) (p : Nat) : List (List (Nat × Nat)) := (List.range (cnt p + 1)).flatMap fun x => Km535.splits p ((st p).map (thereOf n p)) x
def hereAll (n : Nat) (st : Nat → List Int) (cnt : Nat → Nat) (p : Nat) : List (List (Nat × Nat)) := Km535.splits p ((st p).map (thereOf n p)) (cnt p)
theorem some_to : ∀ (E : List Nat), (∀ p ∈ E, st p ≠ [] ∧ (st p).length ≤ 2) → ∀ g, g.Sublist (robots st cnt E) → ∀ c ∈ picks n g, ∃ w ∈ joins (hereSome n st cnt) E, c.Perm w
  | [], _, g, hg, c, mc => by
    have : g = [] := List.sublist_nil.mp hg
    subst this
    rw [List.mem_singleton.mp mc]
    exact ⟨[], List.mem_singleton.mpr rfl, .nil⟩
  | p :: E, h, g, hg, c, mc => by
    rw [robots_cons] at hg
    obtain ⟨g1, g2, rfl, h1, h2⟩ := List.sublist_append_iff.mp hg
    obtain ⟨j, hj, rfl⟩ := List.sublist_replicate_iff.mp h1
    obtain ⟨a, ma, b, mb, rfl⟩ := (picks_append _ _ c).mp mc
    obtain ⟨l1, l2⟩ := h p List.mem_cons_self
    obtain ⟨a', ma', pa⟩ := rep_splits l1 l2 j a ma
    obtain ⟨b', mb', pb⟩ := some_to E (fun q m => h q (List.mem_cons_of_mem _ m)) g2 h2 b mb
    exact ⟨a' ++ b', List.mem_flatMap.mpr ⟨a', List.mem_flatMap.mpr ⟨j, List.mem_range.mpr (by omega), ma'⟩, List.mem_map_of_mem mb'⟩, pa.append pb⟩
theorem some_of_to : ∀ (E : List Nat), (∀ p ∈ E, st p ≠ [] ∧ (st p).length ≤ 2) → ∀ w ∈ joins (hereSome n st cnt) E, ∃ g, g.Sublist (robots st cnt E) ∧ w ∈ picks n g
  | [], _, w, mw => by
    rw [List.mem_singleton.mp mw]
    exact ⟨[], .slnil, List.mem_singleton.mpr rfl⟩
  | p :: E, h, w, mw => by
    obtain ⟨a, ma, mw⟩ := List.mem_flatMap.mp mw
    obtain ⟨b, mb, rfl⟩ := List.mem_map.mp mw
    obtain ⟨j, mj, ma⟩ := List.mem_flatMap.mp ma
    obtain ⟨l1, l2⟩ := h p List.mem_cons_self
    obtain ⟨g2, h2, m2⟩ := some_of_to E (fun q m => h q (List.mem_cons_of_mem _ m)) b mb
    refine ⟨List.replicate j (p, st p) ++ g2, ?_, (picks_append _ _ _).mpr ⟨a, splits_rep l1 l2 j a ma, b, m2, rfl⟩⟩
    rw [robots_cons]
    exact (List.replicate_sublist_iff.mpr (by rw [List.count_replicate_self]; have := List.mem_range.mp mj; omega)).append h2
theorem all_to : ∀ (E : List Nat), (∀ p ∈ E, st p ≠ [] ∧ (st p).length ≤ 2) → ∀ c ∈ picks n (robots st cnt E), ∃ w ∈ joins (hereAll n st cnt) E, c.Perm w
  | [], _, c, mc => by
    rw [List.mem_singleton.mp mc]
    exact ⟨[], List.mem_singleton.mpr rfl, .nil⟩
  | p :: E, h, c, mc => by
    rw [robots_cons] at mc
    obtain ⟨a, ma, b, mb, rfl⟩ := (picks_append _ _ c).mp mc
    obtain ⟨l1, l2⟩ := h p List.mem_cons_self
    obtain ⟨a', ma', pa⟩ := rep_splits l1 l2 _ a ma
    obtain ⟨b', mb', pb⟩ := all_to E (fun q m => h q (List.mem_cons_of_mem _ m)) b mb
    exact ⟨a' ++ b', List.mem_flatMap.mpr ⟨a', ma', List.mem_map_of_mem mb'⟩, pa.append pb⟩
theorem all_of_to : ∀ (E : List Nat), (∀ p ∈ E, st p ≠ [] ∧ (st p).length ≤ 2) → ∀ w ∈ joins (hereAll n st cnt) E, w ∈ picks n (robots st cnt E)
  | [], _, w, mw => by
    rw [List.mem_singleton.mp mw]
    exact List.mem_singleton.mpr rfl
  | p :: E, h, w, mw => by
    obtain ⟨a, ma, mw⟩ := List.mem_flatMap.mp mw
    obtain ⟨b, mb, rfl⟩ := List.mem_map.mp mw
    obtain ⟨l1, l2⟩ := h p List.mem_cons_self
    rw [robots_cons]
    exact (picks_append _ _ _).mpr ⟨a, splits_rep l1 l2 _ a ma, b, all_of_to E (fun q m => h q (List.mem_cons_of_mem _ m)) b mb, rfl⟩
end
/-! ### the specification's moves are these, where nobody goes that isn't there -/
theorem zs_set (l : List Nat) (p x : Nat) : zs (l.set p x) = (zs l).set p (x : Int) := by unfold zs; rw [List.map_set]
theorem zs_move {l : List Nat} {p q : Nat} (h : 0 < l.getD p 0) : zs (Km535.move l p q) = moveI (zs l) p q := by
  unfold Km535.move moveI
  rw [zs_set, zs_set]
  have e : ((l.getD p 0 - 1 : Nat) : Int) = (zs l).getD p 0 - 1 := by rw [zs_getD]; omega
  rw [← e, ← zs_set, zs_getD]
  rfl
theorem move_at (l : List Nat) (p q : Nat) {i : Nat} : l.getD i 0 ≤ (Km535.move l p q).getD i 0 + (if p = i then 1 else 0) := by
  have e : ∀ (l : List Nat) (p x i : Nat), (l.set p x).getD i 0 = if p = i ∧ i < l.length then x else l.getD i 0 := fun l p x i => by
    rw [List.getD_eq_getElem?_getD, List.getElem?_set, List.getD_eq_getElem?_getD]
    by_cases c : p = i
    · subst c
      rw [if_pos rfl]
      by_cases c2 : p < l.length
      · rw [if_pos c2, if_pos ⟨rfl, c2⟩]; rfl
      · rw [if_neg c2, if_neg (fun z => c2 z.2), List.getElem?_eq_none (by omega)]
    · rw [if_neg c, if_neg (fun z => c z.1)]
  unfold Km535.move
  rw [e, e, e]
  repeat' split
  all_goals first
    | omega
    | (next h1 h2 h3 => obtain ⟨rfl, _⟩ := h1; obtain ⟨rfl, _⟩ := h2; omega)
    | (next h1 h2 h3 => obtain ⟨rfl, _⟩ := h1; omega)
    | (next h1 h2 => obtain ⟨rfl, _⟩ := h1; omega)
    | skip
theorem doAll_shift : ∀ (w : List (Nat × Nat)) (l : List Nat), (∀ i, (w.map (·.1)).count i ≤ l.getD i 0) → zs (Km535.doAll l w) = shift (zs l) w
  | [], _, _ => rfl
  | m :: w, l, h => by
    have h0 : 0 < l.getD m.1 0 := by
      have := h m.1
      rw [List.map_cons, List.count_cons_self] at this
      omega
    show zs (Km535.doAll (Km535.move l m.1 m.2) w) = shift (moveI (zs l) m.1 m.2) w
    rw [doAll_shift w, zs_move h0]
    intro i
    have h1 := h i
    have h2 := move_at l m.1 m.2 (i := i)
    rw [List.map_cons, List.count_cons] at h1
    by_cases c : m.1 = i
    · rw [if_pos c] at h2
      rw [if_pos (beq_iff_eq.mpr c)] at h1
      omega
    · rw [if_neg c] at h2
      rw [if_neg (fun z => c (beq_iff_eq.mp z))] at h1
      omega
end RF

/-! ## RFMoveC -/
namespace RF
/-! ### some of them: the sublists -/
theorem fews_sub {α : Type} : ∀ (rs : List α) (C : List (List α)) (f : List α), f ∈ rs.foldl (fun c r => c ++ c.map fun f => f ++ [r]) C ↔ ∃ a ∈ C, ∃ s, s.Sublist rs ∧ f = a ++ s
  | [], C, f => by
    constructor
    · exact fun h => ⟨f, h, [], .slnil, (List.append_nil f).symm⟩
    · rintro ⟨a, ma, s, hs, rfl⟩
      rw [List.sublist_nil.mp hs, List.append_nil]
      exact ma
  | r :: rs, C, f => by
    rw [List.foldl_cons, fews_sub rs]
    constructor
    · rintro ⟨a, ma, s, hs, rfl⟩
      rcases List.mem_append.mp ma with ma | ma
      · exact ⟨a, ma, s, hs.cons r, rfl⟩
      · obtain ⟨b, mb, rfl⟩ := List.mem_map.mp ma
        exact ⟨b, mb, r :: s, hs.cons_cons r, by rw [List.append_assoc]; rfl⟩
    · rintro ⟨a, ma, s, hs, rfl⟩
      cases hs with
      | cons _ hs => exact ⟨a, List.mem_append_left _ ma, s, hs, rfl⟩
      | cons_cons _ hs => exact ⟨a ++ [r], List.mem_append_right _ (List.mem_map_of_mem ma), _, hs, by rw [List.append_assoc]; rfl⟩
theorem fews_head {α : Type} : ∀ (rs : List α) (C : List (List α)), (∀ f ∈ C, f ≠ []) → ∃ C', rs.foldl (fun c r => c ++ c.map fun f => f ++ [r]) ([] :: C) = [] :: C' ∧ ∀ f ∈ C', f ≠ []
  | [], C, h => ⟨C, rfl, h⟩
  | r :: rs, C, h => by
    rw [List.foldl_cons]
    refine fews_head rs (C ++ ([] :: C).map fun f => f ++ [r]) fun f m => ?_
    rcases List.mem_append.mp m with m | m
    · exact h f m
    · obtain ⟨g, _, rfl⟩ := List.mem_map.mp m
      simp
theorem fews_tail {α : Type} (rs f : List α) : f ∈ (fewsUp rs).tail ↔ f.Sublist rs ∧ f ≠ [] := by
  obtain ⟨C, e, h⟩ := fews_head rs [] fun f m => absurd m (by simp)
  have mem : f ∈ fewsUp rs ↔ f.Sublist rs := by
    unfold fewsUp
    rw [fews_sub]
    constructor
    · rintro ⟨a, ma, s, hs, rfl⟩
      rw [List.mem_singleton.mp ma]
      exact hs
    · exact fun hs => ⟨[], List.mem_singleton.mpr rfl, f, hs, rfl⟩
  have e : fewsUp rs = [] :: C := e
  rw [e] at mem ⊢
  rw [List.tail_cons]
  constructor
  · exact fun m => ⟨mem.mp (List.mem_cons_of_mem _ m), h f m⟩
  · rintro ⟨hs, n⟩
    rcases List.mem_cons.mp (mem.mpr hs) with z | z
    · exact absurd z n
    · exact z
theorem who_mem {α : Type} {rs : List α} {m : Nat} {g : List α} : g ∈ whoGo rs m ↔ (if m = 0 then ∃ r ∈ rs, g = [r] else if m = 1 then g.Sublist rs ∧ g ≠ [] else g = rs ∧ rs ≠ []) := by
  unfold whoGo
  by_cases c : rs = []
  · subst c
    rw [if_pos rfl]
    split
    · simp
    · split
      · constructor
        · intro h; cases h
        · rintro ⟨h1, h2⟩
          exact absurd (List.sublist_nil.mp h1) h2
      · simp
  · rw [if_neg c]
    split
    · rw [List.mem_map]
      constructor
      · rintro ⟨r, mr, rfl⟩; exact ⟨r, mr, rfl⟩
      · rintro ⟨r, mr, rfl⟩; exact ⟨r, mr, rfl⟩
    · split
      · exact fews_tail rs g
      · rw [List.mem_singleton]
        exact ⟨fun z => ⟨z, c⟩, fun z => z.1⟩
/-! ### the specification's words -/
theorem diff_mem : ∀ (l o : List (List Nat)) (x : List Nat), x ∈ l.foldl (fun (o : List (List Nat)) (x : List Nat) => if o.contains x then o else o ++ [x]) o ↔ x ∈ o ∨ x ∈ l
  | [], o, x => by simp
  | y :: l, o, x => by
    rw [List.foldl_cons, diff_mem l]
    by_cases c : o.contains y
    · rw [if_pos c]
      have := List.contains_iff_mem.mp c
      constructor
      · rintro (h | h)
        · exact .inl h
        · exact .inr (List.mem_cons_of_mem _ h)
      · rintro (h | h)
        · exact .inl h
        · rcases List.mem_cons.mp h with rfl | h
          · exact .inl this
          · exact .inr h
    · rw [if_neg c, List.mem_append, List.mem_singleton, List.mem_cons, or_assoc]
theorem different_mem (l : List (List Nat)) (x : List Nat) : x ∈ Km535.different l ↔ x ∈ l := by
  unfold Km535.different
  rw [diff_mem]
  simp
theorem flat_filter {α β : Type} (q : α → Bool) (f : α → List β) : ∀ l : List α, (l.filter q).flatMap f = l.flatMap fun x => if q x then f x else []
  | [] => rfl
  | x :: l => by
    rw [List.filter_cons, List.flatMap_cons]
    cases c : q x with
    | true => rw [if_pos rfl, if_pos rfl, List.flatMap_cons, flat_filter q f l]
    | false => rw [if_neg Bool.false_ne_true, if_neg Bool.false_ne_true, List.nil_append, flat_filter q f l]
theorem count_robots {st : Nat → List Int} {cnt : Nat → Nat} : ∀ (E : List Nat), E.Nodup → ∀ i, ((robots st cnt E).map (·.1)).count i ≤ cnt i
  | [], _, i => Nat.zero_le _
  | p :: E, nd, i => by
    obtain ⟨n1, n2⟩ := List.nodup_cons.mp nd
    rw [robots_cons, List.map_append, List.count_append, List.map_replicate]
    by_cases c : p = i
    · subst c
      have z : ((robots st cnt E).map (·.1)).count p = 0 := List.count_eq_zero.mpr fun m => by
        obtain ⟨r, mr, e⟩ := List.mem_map.mp m
        obtain ⟨q, mq, mr⟩ := List.mem_flatMap.mp mr
        have := List.eq_of_mem_replicate mr
        rw [this] at e
        exact n1 (e ▸ mq)
      rw [z, List.count_replicate_self]
      exact Nat.le_refl _
    · have z : (List.replicate (cnt p) p).count i = 0 := List.count_eq_zero.mpr fun m => c (List.eq_of_mem_replicate m).symm
      have := count_robots (st := st) (cnt := cnt) E n2 i
      show (List.replicate (cnt p) p).count i + _ ≤ _
      omega
theorem picks_some {n : Nat} : ∀ (g : List (Nat × List Int)), (∀ r ∈ g, r.2 ≠ []) → ∃ c, c ∈ picks n g
  | [], _ => ⟨[], List.mem_singleton.mpr rfl⟩
  | r :: g, h => by
    obtain ⟨c, mc⟩ := picks_some (n := n) g fun x m => h x (List.mem_cons_of_mem _ m)
    obtain ⟨s, ms⟩ := List.exists_mem_of_ne_nil _ (h r List.mem_cons_self)
    exact ⟨_, List.mem_flatMap.mpr ⟨s, ms, List.mem_map_of_mem mc⟩⟩
theorem picks_there {n : Nat} (n0 : 0 < n) : ∀ (g : List (Nat × List Int)) (c : List (Nat × Nat)), c ∈ picks n g → ∀ m ∈ c, m.2 < n
  | [], c, mc, m, mm => by rw [List.mem_singleton.mp mc] at mm; cases mm
  | r :: g, c, mc, m, mm => by
    obtain ⟨s, ms, mc⟩ := List.mem_flatMap.mp mc
    obtain ⟨c', mc', rfl⟩ := List.mem_map.mp mc
    rcases List.mem_cons.mp mm with rfl | mm
    · show thereOf n r.1 s < n
      unfold thereOf
      have h1 := Int.emod_nonneg ((r.1 : Int) + s) (b := (n : Int)) (by omega)
      have h2 := Int.emod_lt_of_pos ((r.1 : Int) + s) (b := (n : Int)) (by omega)
      omega
    · exact picks_there n0 g c' mc' m mm
/-! ### what may come next -/
section
variable {d : Km535.Desk} {l : List Nat} {td : Nat → Nat}
structure Setting (d : Km535.Desk) (l : List Nat) (td : Nat → Nat) : Prop where
  few : Few l
  eyes : d.see.eyes ≤ 2
  pos : 0 < l.length
  td : ∀ p, p < l.length → 0 < l.getD p 0 → td p = Km535.told d (Km534.view ⟨l, d.see.eyes⟩ p).1
def stAt (d : Km535.Desk) (l : List Nat) (td : Nat → Nat) (p : Nat) : List Int := stepsOf (seenBy d.see.eyes (zs l)) p (td p)
theorem goes_st (S : Setting d l td) {p : Nat} (hp : p < l.length) (h0 : 0 < l.getD p 0) : Km535.goes d l p = (stAt d l td p).map (thereOf l.length p) := by
  rw [goes_is d S.few S.eyes hp, ← S.td p hp h0]
  rfl
theorem eager_mem (S : Setting d l td) {p : Nat} (h : p ∈ Km535.eager d l) : p < l.length ∧ 0 < l.getD p 0 ∧ stAt d l td p ≠ [] ∧ (stAt d l td p).length ≤ 2 := by
  unfold Km535.eager at h
  obtain ⟨h1, h2⟩ := List.mem_filter.mp h
  rw [Bool.and_eq_true] at h2
  have hp := List.mem_range.mp h1
  have h0 := of_decide_eq_true h2.1
  refine ⟨hp, h0, fun z => ?_, steps_le _ _ _⟩
  have h3 := h2.2
  rw [goes_st S hp h0, z] at h3
  cases h3
theorem eager_robots_is (S : Setting d l td) : eagerOf d.see.eyes (zs l) td = robots (stAt d l td) (fun p => l.getD p 0) (Km535.eager d l) := by
  unfold eagerOf eagerUp robots Km535.eager
  rw [flat_filter, zs_len]
  have cg : ∀ (f g : Nat → List (Nat × List Int)) (L : List Nat), (∀ p ∈ L, f p = g p) → L.flatMap f = L.flatMap g := fun f g L h => by
    rw [List.flatMap_def, List.flatMap_def, List.map_congr_left h]
  refine cg _ _ _ fun p m => ?_
  have hp := List.mem_range.mp m
  unfold eagerAt
  rw [zs_getD]
  by_cases c : 0 < l.getD p 0
  · rw [decide_eq_true c, Bool.true_and, goes_st S hp c]
    by_cases c2 : stAt d l td p = []
    · rw [c2, if_neg (fun z => z.2 c2)]
      rfl
    · have b : ((stAt d l td p).map (thereOf l.length p) != []) = true := by
        rw [bne_iff_ne]
        exact fun z => c2 (List.map_eq_nil_iff.mp z)
      rw [if_pos ⟨by omega, c2⟩, b, if_pos rfl, Int.toNat_natCast]
      rfl
  · rw [if_neg (fun z => c (by have := z.1; omega)), decide_eq_false c, Bool.false_and, if_neg Bool.false_ne_true]
theorem eager_nd (d : Km535.Desk) (l : List Nat) : (Km535.eager d l).Nodup := List.nodup_range.sublist List.filter_sublist
theorem go_count (E : (Km535.eager d l).Nodup) {g : List (Nat × List Int)} (hg : g.Sublist (robots (stAt d l td) (fun p => l.getD p 0) (Km535.eager d l))) {w : List (Nat × Nat)} (hw : w ∈ picks l.length g) (i : Nat) : (w.map (·.1)).count i ≤ l.getD i 0 := by
  rw [picks_from g w hw]
  exact Nat.le_trans ((hg.map _).count_le i) (count_robots _ E i)
theorem fold_cong (f g : List (List (Nat × Nat)) → Nat → List (List (Nat × Nat))) : ∀ (E : List Nat) (W : List (List (Nat × Nat))), (∀ p ∈ E, ∀ W, f W p = g W p) → E.foldl f W = E.foldl g W
  | [], _, _ => rfl
  | p :: E, W, h => by
    rw [List.foldl_cons, List.foldl_cons, h p List.mem_cons_self, fold_cong f g E _ fun q m => h q (List.mem_cons_of_mem _ m)]
theorem pk_len {n : Nat} {g : List (Nat × List Int)} {w : List (Nat × Nat)} (h : w ∈ picks n g) : w.length = g.length := by
  have := congrArg List.length (picks_from g w h)
  rw [List.length_map, List.length_map] at this
  exact this
theorem next_is (S : Setting d l td) {m : Nat} (hm : m ≤ 2) (x : List Int) : x ∈ allAfter (zs l) (eagerOf d.see.eyes (zs l) td) m ↔ ∃ r ∈ Km535.nextBy d m l, x = zs r := by
  rw [eager_robots_is S]
  have al : x ∈ allAfter (zs l) (robots (stAt d l td) (fun p => l.getD p 0) (Km535.eager d l)) m ↔ ∃ g ∈ whoGo (robots (stAt d l td) (fun p => l.getD p 0) (Km535.eager d l)) m, ∃ c ∈ picks l.length g, x = shift (zs l) c := by
    unfold allAfter
    rw [List.mem_flatMap]
    constructor
    · rintro ⟨g, mg, h⟩
      rw [after_picks, zs_len] at h
      exact ⟨g, mg, h⟩
    · rintro ⟨g, mg, h⟩
      refine ⟨g, mg, ?_⟩
      rw [after_picks, zs_len]
      exact h
  rw [al]
  have nd := eager_nd d l
  have each : ∀ p ∈ Km535.eager d l, stAt d l td p ≠ [] ∧ (stAt d l td p).length ≤ 2 := fun p h => (eager_mem S h).2.2
  by_cases c0 : m = 0
  · subst c0
    have e0 : Km535.nextBy d 0 l = Km535.different ((Km535.eager d l).flatMap fun p => (Km535.goes d l p).map fun q => Km535.move l p q) := rfl
    rw [e0]
    simp only [different_mem]
    constructor
    · rintro ⟨g, mg, c, mc, rfl⟩
      rw [who_mem, if_pos rfl] at mg
      obtain ⟨r, mr, rfl⟩ := mg
      obtain ⟨p, mp, mr⟩ := List.mem_flatMap.mp mr
      have er := List.eq_of_mem_replicate mr
      subst er
      obtain ⟨hp, h0, _, _⟩ := eager_mem S mp
      obtain ⟨s, ms, mc⟩ := List.mem_flatMap.mp mc
      obtain ⟨c', mc', rfl⟩ := List.mem_map.mp mc
      rw [List.mem_singleton.mp mc']
      refine ⟨Km535.move l p (thereOf l.length p s), List.mem_flatMap.mpr ⟨p, mp, List.mem_map_of_mem ?_⟩, ?_⟩
      · rw [goes_st S hp h0]
        exact List.mem_map_of_mem ms
      · rw [zs_move h0]
        rfl
    · rintro ⟨r, mr, rfl⟩
      obtain ⟨p, mp, mr⟩ := List.mem_flatMap.mp mr
      obtain ⟨q, mq, rfl⟩ := List.mem_map.mp mr
      obtain ⟨hp, h0, _, _⟩ := eager_mem S mp
      rw [goes_st S hp h0] at mq
      obtain ⟨s, ms, rfl⟩ := List.mem_map.mp mq
      refine ⟨[(p, stAt d l td p)], ?_, [(p, thereOf l.length p s)], ?_, ?_⟩
      · rw [who_mem, if_pos rfl]
        refine ⟨_, List.mem_flatMap.mpr ⟨p, mp, ?_⟩, rfl⟩
        exact List.mem_replicate.mpr ⟨Nat.ne_of_gt h0, rfl⟩
      · exact List.mem_flatMap.mpr ⟨s, ms, List.mem_map.mpr ⟨[], List.mem_singleton.mpr rfl, rfl⟩⟩
      · rw [zs_move h0]
        rfl
  · by_cases c1 : m = 1
    · subst c1
      have e1 : Km535.nextBy d 1 l = Km535.different ((((Km535.eager d l).foldl (fun (w : List (List (Nat × Nat))) (p : Nat) => w.flatMap fun a => ((List.range (l.getD p 0 + 1)).flatMap fun x => Km535.splits p (Km535.goes d l p) x).map fun b => a ++ b) [[]]).filter fun w => w != []).map fun w => Km535.doAll l w) := rfl
      have e2 : (Km535.eager d l).foldl (fun (w : List (List (Nat × Nat))) (p : Nat) => w.flatMap fun a => ((List.range (l.getD p 0 + 1)).flatMap fun x => Km535.splits p (Km535.goes d l p) x).map fun b => a ++ b) [[]] = (Km535.eager d l).foldl (fun (w : List (List (Nat × Nat))) (p : Nat) => w.flatMap fun a => (hereSome l.length (stAt d l td) (fun p => l.getD p 0) p).map fun b => a ++ b) [[]] := by
        refine fold_cong _ _ _ _ fun p mp W => ?_
        obtain ⟨hp, h0, _, _⟩ := eager_mem S mp
        rw [goes_st S hp h0]
        rfl
      rw [e1, e2]
      simp only [different_mem]
      constructor
      · rintro ⟨g, mg, c, mc, rfl⟩
        rw [who_mem, if_neg (by decide), if_pos rfl] at mg
        obtain ⟨w, mw, pw⟩ := some_to _ each g mg.1 c mc
        obtain ⟨g', sg', mg'⟩ := some_of_to _ each w mw
        refine ⟨Km535.doAll l w, List.mem_map_of_mem (List.mem_filter.mpr ⟨(fold_joins _ _ _ _).mpr ⟨[], List.mem_singleton.mpr rfl, w, mw, rfl⟩, ?_⟩), ?_⟩
        · rw [bne_iff_ne]
          intro z
          have h1 := pk_len mc
          have h2 := pw.length_eq
          rw [z, h1] at h2
          exact mg.2 (List.length_eq_zero_iff.mp h2)
        · rw [doAll_shift w l (go_count nd sg' mg'), shift_perm pw]
      · rintro ⟨r, mr, rfl⟩
        obtain ⟨w, mw, rfl⟩ := List.mem_map.mp mr
        obtain ⟨mw, nw⟩ := List.mem_filter.mp mw
        obtain ⟨a, ma, w', mw', rfl⟩ := (fold_joins _ _ _ _).mp mw
        rw [List.mem_singleton.mp ma, List.nil_append] at nw ⊢
        obtain ⟨g', sg', mg'⟩ := some_of_to _ each w' mw'
        refine ⟨g', ?_, w', mg', doAll_shift w' l (go_count nd sg' mg')⟩
        rw [who_mem, if_neg (by decide), if_pos rfl]
        refine ⟨sg', fun z => ?_⟩
        rw [z] at mg'
        rw [List.mem_singleton.mp mg'] at nw
        cases nw
    · have c2 : m = 2 := by omega
      subst c2
      have e1 : Km535.nextBy d 2 l = Km535.different ((((Km535.eager d l).foldl (fun (w : List (List (Nat × Nat))) (p : Nat) => w.flatMap fun a => (Km535.splits p (Km535.goes d l p) (l.getD p 0)).map fun b => a ++ b) [[]]).filter fun w => w != []).map fun w => Km535.doAll l w) := rfl
      have e2 : (Km535.eager d l).foldl (fun (w : List (List (Nat × Nat))) (p : Nat) => w.flatMap fun a => (Km535.splits p (Km535.goes d l p) (l.getD p 0)).map fun b => a ++ b) [[]] = (Km535.eager d l).foldl (fun (w : List (List (Nat × Nat))) (p : Nat) => w.flatMap fun a => (hereAll l.length (stAt d l td) (fun p => l.getD p 0) p).map fun b => a ++ b) [[]] := by
        refine fold_cong _ _ _ _ fun p mp W => ?_
        obtain ⟨hp, h0, _, _⟩ := eager_mem S mp
        rw [goes_st S hp h0]
        rfl
      rw [e1, e2]
      simp only [different_mem]
      constructor
      · rintro ⟨g, mg, c, mc, rfl⟩
        rw [who_mem, if_neg (by decide), if_neg (by decide)] at mg
        obtain ⟨rfl, ne⟩ := mg
        obtain ⟨w, mw, pw⟩ := all_to _ each c mc
        have mg' := all_of_to _ each w mw
        refine ⟨Km535.doAll l w, List.mem_map_of_mem (List.mem_filter.mpr ⟨(fold_joins _ _ _ _).mpr ⟨[], List.mem_singleton.mpr rfl, w, mw, rfl⟩, ?_⟩), ?_⟩
        · rw [bne_iff_ne]
          intro z
          have h1 := pk_len mg'
          rw [z] at h1
          exact ne (List.length_eq_zero_iff.mp h1.symm)
        · rw [doAll_shift w l (go_count nd (List.Sublist.refl _) mg'), shift_perm pw]
      · rintro ⟨r, mr, rfl⟩
        obtain ⟨w, mw, rfl⟩ := List.mem_map.mp mr
        obtain ⟨mw, nw⟩ := List.mem_filter.mp mw
        obtain ⟨a, ma, w', mw', rfl⟩ := (fold_joins _ _ _ _).mp mw
        rw [List.mem_singleton.mp ma, List.nil_append] at nw ⊢
        have mg' := all_of_to _ each w' mw'
        refine ⟨_, ?_, w', mg', doAll_shift w' l (go_count nd (List.Sublist.refl _) mg')⟩
        rw [who_mem, if_neg (by decide), if_neg (by decide)]
        refine ⟨rfl, fun z => ?_⟩
        rw [z] at mg'
        rw [List.mem_singleton.mp mg'] at nw
        cases nw
/-- somebody's eager: something may come next -/
theorem next_some (S : Setting d l td) {m : Nat} (hm : m ≤ 2) : Km535.nextBy d m l = [] ↔ Km535.eager d l = [] := by
  constructor
  · intro h
    cases e : Km535.eager d l with
    | nil => rfl
    | cons p E =>
      exfalso
      have mp : p ∈ Km535.eager d l := by rw [e]; exact List.mem_cons_self
      have mr : (p, stAt d l td p) ∈ robots (stAt d l td) (fun p => l.getD p 0) (Km535.eager d l) := List.mem_flatMap.mpr ⟨p, mp, List.mem_replicate.mpr ⟨Nat.ne_of_gt (eager_mem S mp).2.1, rfl⟩⟩
      have all : ∀ r ∈ robots (stAt d l td) (fun p => l.getD p 0) (Km535.eager d l), r.2 ≠ [] := fun r m => by
        obtain ⟨q, mq, m⟩ := List.mem_flatMap.mp m
        rw [List.eq_of_mem_replicate m]
        exact (eager_mem S mq).2.2.1
      obtain ⟨g, mg, sg⟩ : ∃ g ∈ whoGo (robots (stAt d l td) (fun p => l.getD p 0) (Km535.eager d l)) m, ∀ r ∈ g, r.2 ≠ [] := by
        by_cases c0 : m = 0
        · refine ⟨[(p, stAt d l td p)], ?_, fun r m => ?_⟩
          · rw [who_mem, if_pos c0]
            exact ⟨_, mr, rfl⟩
          · rw [List.mem_singleton.mp m]
            exact all _ mr
        · refine ⟨_, ?_, all⟩
          rw [who_mem, if_neg c0]
          split
          · exact ⟨List.Sublist.refl _, List.ne_nil_of_mem mr⟩
          · exact ⟨rfl, List.ne_nil_of_mem mr⟩
      obtain ⟨c, mc⟩ := picks_some (n := (zs l).length) g sg
      have mx : shift (zs l) c ∈ allAfter (zs l) (eagerOf d.see.eyes (zs l) td) m := by
        rw [eager_robots_is S]
        exact List.mem_flatMap.mpr ⟨g, mg, (after_picks _ _ _).mpr ⟨c, mc, rfl⟩⟩
      obtain ⟨r, mr, _⟩ := (next_is S hm _).mp mx
      rw [h] at mr
      cases mr
  · intro h
    cases e : Km535.nextBy d m l with
    | nil => rfl
    | cons r R =>
      exfalso
      have mr : r ∈ Km535.nextBy d m l := by rw [e]; exact List.mem_cons_self
      have mx := (next_is S hm (zs r)).mpr ⟨r, mr, rfl⟩
      rw [eager_robots_is S, h] at mx
      have : whoGo (robots (stAt d l td) (fun p => l.getD p 0) []) m = [] := rfl
      unfold allAfter at mx
      rw [this] at mx
      cases mx
end
end RF

/-! ## RFMoveD -/
namespace RF
/-! ### all rings of so many robots -/
theorem rows_mem : ∀ (n k : Nat) (r : List Nat), r ∈ Km534.allRows n k ↔ r.length = n ∧ r.sum = k
  | 0, k, r => by
    unfold Km534.allRows
    split
    · next c =>
      subst c
      rw [List.mem_singleton]
      constructor
      · rintro rfl; exact ⟨rfl, rfl⟩
      · exact fun h => List.length_eq_zero_iff.mp h.1
    · next c =>
      constructor
      · intro h; cases h
      · rintro ⟨h1, h2⟩
        rw [List.length_eq_zero_iff.mp h1] at h2
        exact absurd h2.symm c
  | n + 1, k, r => by
    show r ∈ (List.range (k + 1)).flatMap (fun x => (Km534.allRows n (k - x)).map fun r => x :: r) ↔ _
    rw [List.mem_flatMap]
    constructor
    · rintro ⟨x, mx, m⟩
      obtain ⟨s, ms, rfl⟩ := List.mem_map.mp m
      obtain ⟨h1, h2⟩ := (rows_mem n (k - x) s).mp ms
      have := List.mem_range.mp mx
      rw [List.length_cons, List.sum_cons]
      omega
    · rintro ⟨h1, h2⟩
      cases r with
      | nil => cases h1
      | cons x s =>
        rw [List.length_cons] at h1
        rw [List.sum_cons] at h2
        exact ⟨x, List.mem_range.mpr (by omega), List.mem_map.mpr ⟨s, (rows_mem n (k - x) s).mpr ⟨by omega, by omega⟩, rfl⟩⟩
theorem rows_few {n k : Nat} (hk : k ≤ 3) {r : List Nat} (h : r ∈ Km534.allRows n k) : Few r := fun x m => by
  have h1 := (rows_mem n k r).mp h
  have gen : ∀ r : List Nat, x ∈ r → x ≤ r.sum := fun r => by
    induction r with
    | nil => intro m; cases m
    | cons y r ih =>
      intro m
      rw [List.sum_cons]
      rcases List.mem_cons.mp m with rfl | m
      · omega
      · have := ih m; omega
  have := gen r m
  omega
theorem names_rows {n k : Nat} {r : List Nat} (h : r ∈ Km534.names n k) : r ∈ Km534.allRows n k := (List.mem_filter.mp h).1
theorem sum_set : ∀ (a : List Int) (p : Nat) (x : Int), p < a.length → (a.set p x).sum = a.sum - a.getD p 0 + x
  | [], _, _, h => by cases h
  | y :: a, 0, x, _ => by
    show (x :: a).sum = (y :: a).sum - y + x
    rw [List.sum_cons, List.sum_cons]
    omega
  | y :: a, p + 1, x, h => by
    have ih := sum_set a p x (by rw [List.length_cons] at h; omega)
    show (y :: a.set p x).sum = (y :: a).sum - a.getD p 0 + x
    rw [List.sum_cons, List.sum_cons, ih]
    omega
theorem sum_move {a : List Int} {p q : Nat} (hp : p < a.length) (hq : q < a.length) : (moveI a p q).sum = a.sum := by
  unfold moveI
  rw [sum_set _ _ _ (by rw [List.length_set]; exact hq), sum_set _ _ _ hp]
  omega
theorem sum_shift : ∀ (w : List (Nat × Nat)) (a : List Int), (∀ m ∈ w, m.1 < a.length ∧ m.2 < a.length) → (shift a w).sum = a.sum
  | [], _, _ => rfl
  | m :: w, a, h => by
    show (shift (moveI a m.1 m.2) w).sum = a.sum
    rw [sum_shift w _ fun x mx => by rw [moveI_len]; exact h x (List.mem_cons_of_mem _ mx), sum_move (h m List.mem_cons_self).1 (h m List.mem_cons_self).2]
theorem zs_sum (l : List Nat) : (zs l).sum = (l.sum : Nat) := by
  induction l with
  | nil => rfl
  | cons x l ih =>
    show ((x : Int) :: zs l).sum = _
    rw [List.sum_cons, List.sum_cons, ih]
    omega
section
variable {d : Km535.Desk} {l : List Nat} {td : Nat → Nat}
theorem next_rows (S : Setting d l td) {m : Nat} (hm : m ≤ 2) {r : List Nat} (h : r ∈ Km535.nextBy d m l) : r.length = l.length ∧ r.sum = l.sum := by
  have mx := (next_is S hm (zs r)).mpr ⟨r, h, rfl⟩
  rw [eager_robots_is S] at mx
  obtain ⟨g, mg, mx⟩ := List.mem_flatMap.mp mx
  obtain ⟨c, mc, e⟩ := (after_picks _ _ _).mp mx
  have lz := zs_len l
  have sub : ∀ x ∈ g, x ∈ robots (stAt d l td) (fun p => l.getD p 0) (Km535.eager d l) := fun x mx => by
    rw [who_mem] at mg
    split at mg
    · obtain ⟨r', mr', rfl⟩ := mg
      rw [List.mem_singleton.mp mx]; exact mr'
    · split at mg
      · exact mg.1.mem mx
      · rw [← mg.1]; exact mx
  have bd : ∀ x ∈ c, x.1 < (zs l).length ∧ x.2 < (zs l).length := fun x mx => by
    refine ⟨?_, picks_there (by rw [lz]; exact S.pos) g c mc x mx⟩
    have : x.1 ∈ g.map (·.1) := by rw [← picks_from g c mc]; exact List.mem_map_of_mem mx
    obtain ⟨y, my, ey⟩ := List.mem_map.mp this
    obtain ⟨p, mp, my⟩ := List.mem_flatMap.mp (sub y my)
    rw [← ey, List.eq_of_mem_replicate my, lz]
    exact (eager_mem S mp).1
  constructor
  · have := congrArg List.length e
    rw [zs_len, shift_len, lz] at this
    exact this
  · have := congrArg List.sum e
    rw [sum_shift c _ bd, zs_sum, zs_sum] at this
    omega
/-- what the settings give (shown by counting through) -/
structure NameOk (n k : Nat) : Prop where
  name : ∀ r ∈ Km534.allRows n k, nameOf (zs r) = zs (Km534.name r)
  has : ∀ r ∈ Km534.allRows n k, Km534.name r ∈ Km534.names n k
theorem names_next {n k : Nat} (N : NameOk n k) (S : Setting d l td) (hl : l ∈ Km534.allRows n k) {m : Nat} (hm : m ≤ 2) (x : List Int) : (∃ r ∈ allAfter (zs l) (eagerOf d.see.eyes (zs l) td) m, x = nameOf r) ↔ ∃ y ∈ Km535.nextNames d m l, x = zs y := by
  obtain ⟨l1, l2⟩ := (rows_mem n k l).mp hl
  have inr : ∀ {r}, r ∈ Km535.nextBy d m l → r ∈ Km534.allRows n k := fun {r} h => by
    obtain ⟨r1, r2⟩ := next_rows S hm h
    exact (rows_mem n k r).mpr ⟨by omega, by omega⟩
  unfold Km535.nextNames
  simp only [different_mem]
  constructor
  · rintro ⟨r, mr, rfl⟩
    obtain ⟨s, ms, rfl⟩ := (next_is S hm r).mp mr
    exact ⟨Km534.name s, List.mem_map_of_mem ms, N.name s (inr ms)⟩
  · rintro ⟨y, my, rfl⟩
    obtain ⟨s, ms, rfl⟩ := List.mem_map.mp my
    exact ⟨zs s, (next_is S hm _).mpr ⟨s, ms, rfl⟩, (N.name s (inr ms)).symm⟩
theorem next_in {n k : Nat} (N : NameOk n k) (S : Setting d l td) (hl : l ∈ Km534.allRows n k) {m : Nat} (hm : m ≤ 2) {y : List Nat} (h : y ∈ Km535.nextNames d m l) : y ∈ Km534.names n k := by
  obtain ⟨l1, l2⟩ := (rows_mem n k l).mp hl
  unfold Km535.nextNames at h
  rw [different_mem] at h
  obtain ⟨s, ms, rfl⟩ := List.mem_map.mp h
  obtain ⟨r1, r2⟩ := next_rows S hm ms
  exact N.has s ((rows_mem n k s).mpr ⟨by omega, by omega⟩)
theorem nextNames_nil (S : Setting d l td) {m : Nat} (hm : m ≤ 2) : Km535.nextNames d m l = [] ↔ Km535.eager d l = [] := by
  rw [← next_some S hm]
  constructor
  · intro h
    cases e : Km535.nextBy d m l with
    | nil => rfl
    | cons r R =>
      exfalso
      have : Km534.name r ∈ Km535.nextNames d m l := by
        unfold Km535.nextNames
        rw [different_mem, e]
        exact List.mem_map_of_mem List.mem_cons_self
      rw [h] at this
      cases this
  · intro h
    unfold Km535.nextNames
    rw [h]
    rfl
end
/-! ### what is told: the views that are had, and what is done -/
theorem view_in {l : List Nat} {e p : Nat} (hp : p < l.length) (h0 : 0 < l.getD p 0) : (Km534.view ⟨l, e⟩ p).1 ∈ Km534.viewsOf ⟨l, e⟩ := by
  have gen : ∀ (ps : List Nat) (o : List (List Nat)) (x : List Nat), (x ∈ o ∨ ∃ q ∈ ps, x = (Km534.view ⟨l, e⟩ q).1) → x ∈ ps.foldl (fun (o : List (List Nat)) (p : Nat) => if o.contains (Km534.view ⟨l, e⟩ p).1 then o else o ++ [(Km534.view ⟨l, e⟩ p).1]) o := by
    intro ps
    induction ps with
    | nil =>
      rintro o x (h | ⟨q, mq, _⟩)
      · exact h
      · cases mq
    | cons q ps ih =>
      intro o x h
      rw [List.foldl_cons]
      refine ih _ x ?_
      have grow : x ∈ o ∨ x = (Km534.view ⟨l, e⟩ q).1 → x ∈ (if o.contains (Km534.view ⟨l, e⟩ q).1 then o else o ++ [(Km534.view ⟨l, e⟩ q).1]) := fun z => by
        split
        · next c =>
          rcases z with z | z
          · exact z
          · rw [z]; exact List.contains_iff_mem.mp c
        · rw [List.mem_append, List.mem_singleton]; exact z
      rcases h with h | ⟨r, mr, h⟩
      · exact .inl (grow (.inl h))
      · rcases List.mem_cons.mp mr with rfl | mr
        · exact .inl (grow (.inr h))
        · exact .inr ⟨r, mr, h⟩
  refine gen _ [] _ (.inr ⟨p, List.mem_filter.mpr ⟨List.mem_range.mpr hp, decide_eq_true h0⟩, rfl⟩)
theorem views_nd {l : List Nat} {e : Nat} : (Km534.viewsOf ⟨l, e⟩).Nodup := by
  have gen : ∀ (ps : List Nat) (o : List (List Nat)), o.Nodup → (ps.foldl (fun (o : List (List Nat)) (p : Nat) => if o.contains (Km534.view ⟨l, e⟩ p).1 then o else o ++ [(Km534.view ⟨l, e⟩ p).1]) o).Nodup := by
    intro ps
    induction ps with
    | nil => exact fun o h => h
    | cons q ps ih =>
      intro o h
      rw [List.foldl_cons]
      refine ih _ ?_
      split
      · exact h
      · next c =>
        rw [List.nodup_append]
        refine ⟨h, by simp, fun a ma b mb => ?_⟩
        rw [List.mem_singleton.mp mb]
        rintro rfl
        exact c (List.contains_iff_mem.mpr ma)
  exact gen _ [] List.nodup_nil
/-- what is told of the j-th of the views -/
theorem told_at {l : List Nat} {e a : Nat} {mine : List (List Nat)} {done : List Nat} (nd : mine.Nodup) {j : Nat} {v : List Nat} {x : Nat} (h1 : mine[j]? = some v) (h2 : done[j]? = some x) : Km535.told ⟨⟨l, e⟩, mine.zip done, a⟩ v = x := by
  have gen : ∀ (mine : List (List Nat)) (done : List Nat) (j : Nat), mine.Nodup → mine[j]? = some v → done[j]? = some x → (mine.zip done).find? (fun r => r.1 == v) = some (v, x) := by
    intro mine
    induction mine with
    | nil => intro done j _ h; cases h
    | cons u mine ih =>
      intro done j nd h1 h2
      obtain ⟨n1, n2⟩ := List.nodup_cons.mp nd
      cases done with
      | nil => cases h2
      | cons y done =>
        cases j with
        | zero =>
          cases Option.some.inj h1
          cases Option.some.inj h2
          rw [List.zip_cons_cons, List.find?_cons]
          simp
        | succ j =>
          have h1 : mine[j]? = some v := h1
          have h2 : done[j]? = some x := h2
          have ne : (u == v) = false := beq_eq_false_iff_ne.mpr fun z => n1 (z ▸ List.mem_of_getElem? h1)
          rw [List.zip_cons_cons, List.find?_cons]
          simp only [ne]
          exact ih done j n2 h1 h2
  unfold Km535.told
  rw [gen mine done j nd h1 h2]
/-! ### rules -/
theorem rules_mem : ∀ (vs : List (List Nat)) (r : List Nat), r ∈ Km537.allRules vs ↔ r.length = vs.length ∧ ∀ (j : Nat) (v : List Nat) (x : Nat), vs[j]? = some v → r[j]? = some x → x < Km537.choices v
  | [], r => by
    show r ∈ [[]] ↔ _
    rw [List.mem_singleton]
    constructor
    · rintro rfl; exact ⟨rfl, fun j v x h => by cases h⟩
    · exact fun h => List.length_eq_zero_iff.mp h.1
  | v :: vs, r => by
    show r ∈ (List.range (Km537.choices v)).flatMap (fun m => (Km537.allRules vs).map fun x => m :: x) ↔ _
    rw [List.mem_flatMap]
    constructor
    · rintro ⟨m, mm, h⟩
      obtain ⟨s, ms, rfl⟩ := List.mem_map.mp h
      obtain ⟨h1, h2⟩ := (rules_mem vs s).mp ms
      refine ⟨by rw [List.length_cons, List.length_cons, h1], fun j u x hu hx => ?_⟩
      cases j with
      | zero =>
        cases Option.some.inj hu
        cases Option.some.inj hx
        exact List.mem_range.mp mm
      | succ j => exact h2 j u x hu hx
    · rintro ⟨h1, h2⟩
      cases r with
      | nil => cases h1
      | cons m s =>
        refine ⟨m, List.mem_range.mpr (h2 0 v m rfl rfl), List.mem_map.mpr ⟨s, (rules_mem vs s).mpr ⟨by rw [List.length_cons, List.length_cons] at h1; omega, fun j u x hu hx => h2 (j + 1) u x hu hx⟩, rfl⟩⟩
/-- one view more -/
theorem rules_snoc : ∀ (vs : List (List Nat)) (v : List Nat), Km537.allRules (vs ++ [v]) = (Km537.allRules vs).flatMap fun r => (List.range (Km537.choices v)).map fun m => r ++ [m]
  | [], v => by
    show (List.range (Km537.choices v)).flatMap (fun m => [[]].map fun x => m :: x) = [[]].flatMap fun r => (List.range (Km537.choices v)).map fun m => r ++ [m]
    rw [List.flatMap_cons, List.flatMap_nil, List.append_nil]
    generalize List.range (Km537.choices v) = L
    induction L with
    | nil => rfl
    | cons x L ih => rw [List.flatMap_cons, ih]; rfl
  | u :: vs, v => by
    show (List.range (Km537.choices u)).flatMap (fun m => (Km537.allRules (vs ++ [v])).map fun x => m :: x) = ((List.range (Km537.choices u)).flatMap fun m => (Km537.allRules vs).map fun x => m :: x).flatMap fun r => (List.range (Km537.choices v)).map fun m => r ++ [m]
    rw [List.flatMap_assoc, rules_snoc vs v]
    congr 1
    funext m
    rw [List.map_flatMap, List.flatMap_map]
    congr 1
    funext r
    rw [List.map_map]
    rfl
end RF

/-! ## RFSure -/
/-! What gathers surely, as the least such set: the specification's rounds come to it, whatever the order. -/
namespace RF
open Km537
inductive Sure (g : List Row) : Nat → Prop
  | rest {i : Nat} {r : Row} : g[i]? = some r → r.rest = 1 → Sure g i
  | go {i : Nat} {r : Row} : g[i]? = some r → r.rest = 0 → (∀ j ∈ r.next, Sure g j) → Sure g i
theorem Sure.lt {g : List Row} {i : Nat} (h : Sure g i) : i < g.length := by
  cases h with
  | rest e _ => exact (List.getElem?_eq_some_iff.mp e).1
  | go e _ _ => exact (List.getElem?_eq_some_iff.mp e).1
theorem pigeon : ∀ (n : Nat) (o : List Nat), o.Nodup → (∀ i ∈ o, i < n) → o.length ≤ n
  | 0, [], _, _ => Nat.le_refl _
  | 0, a :: _, _, h => absurd (h a List.mem_cons_self) (Nat.not_lt_zero _)
  | n + 1, o, nd, h => by
    have k := pigeon n (o.erase n) (nd.sublist List.erase_sublist) fun i m => by
      have mi : i ∈ o := List.mem_of_mem_erase m
      have ne : i ≠ n := fun z => by
        subst z
        exact (List.Nodup.not_mem_erase nd) m
      have := h i mi
      omega
    by_cases c : n ∈ o
    · have := List.length_erase_of_mem c
      omega
    · rw [List.erase_of_not_mem c] at k
      omega
/-- one round's find -/
def ready (g : List Row) (o : List Nat) (i : Nat) : Bool := !o.contains i && (match g[i]? with
  | none => false
  | some r => r.rest == 1 || (r.rest == 0 && r.next.all fun j => o.contains j))
theorem sureUp_succ (g : List Row) (f : Nat) (o : List Nat) : sureUp g (f + 1) o = if (List.range g.length).filter (ready g o) = [] then o else sureUp g f (o ++ (List.range g.length).filter (ready g o)) := rfl
theorem ready_sure {g : List Row} {o : List Nat} {i : Nat} (ho : ∀ j ∈ o, Sure g j) (h : ready g o i = true) : i ∉ o ∧ Sure g i := by
  unfold ready at h
  rw [Bool.and_eq_true] at h
  obtain ⟨h1, h2⟩ := h
  refine ⟨by simpa using h1, ?_⟩
  split at h2
  · cases h2
  · next r e =>
    rw [Bool.or_eq_true, Bool.and_eq_true] at h2
    rcases h2 with h2 | ⟨h2, h3⟩
    · exact .rest e (by simpa using h2)
    · refine .go e (by simpa using h2) fun j m => ho j ?_
      have := List.all_eq_true.mp h3 j m
      simpa using this
theorem closed_all {g : List Row} {o : List Nat} (h : (List.range g.length).filter (ready g o) = []) : ∀ {i : Nat}, Sure g i → i ∈ o := by
  have no : ∀ i, i < g.length → ready g o i = false := fun i hi => by
    cases e : ready g o i with
    | false => rfl
    | true =>
      have : i ∈ (List.range g.length).filter (ready g o) := List.mem_filter.mpr ⟨List.mem_range.mpr hi, e⟩
      rw [h] at this
      cases this
  intro i s
  induction s with
  | @rest i r e h1 =>
    have z := no i (List.getElem?_eq_some_iff.mp e).1
    unfold ready at z
    rw [e] at z
    simpa [h1] using z
  | @go i r e h1 _ ih =>
    have z := no i (List.getElem?_eq_some_iff.mp e).1
    unfold ready at z
    rw [e] at z
    have a : (r.next.all fun j => o.contains j) = true := List.all_eq_true.mpr fun j m => by simpa using ih j m
    simp only [h1, a] at z
    simpa using z
theorem sureUp_is (g : List Row) : ∀ (f : Nat) (o : List Nat), o.Nodup → (∀ i ∈ o, Sure g i) → g.length < o.length + f → ∀ i, i ∈ sureUp g f o ↔ Sure g i
  | 0, o, nd, ho, hf => by
    have := pigeon g.length o nd fun i m => (ho i m).lt
    omega
  | f + 1, o, nd, ho, hf => by
    rw [sureUp_succ]
    by_cases c : (List.range g.length).filter (ready g o) = []
    · rw [if_pos c]
      exact fun i => ⟨ho i, closed_all c⟩
    · rw [if_neg c]
      refine sureUp_is g f _ ?_ ?_ ?_
      · rw [List.nodup_append]
        refine ⟨nd, List.nodup_range.sublist List.filter_sublist, fun a ma b mb => ?_⟩
        rintro rfl
        exact (ready_sure ho (List.mem_filter.mp mb).2).1 ma
      · intro i m
        rcases List.mem_append.mp m with m | m
        · exact ho i m
        · exact (ready_sure ho (List.mem_filter.mp m).2).2
      · have : 0 < ((List.range g.length).filter (ready g o)).length := List.length_pos_iff.mpr c
        rw [List.length_append]
        omega
/-- by a rule, of the table's names, those that gather surely -/
theorem suresBy_is (t : List Entry) (rule : List Nat) (i : Nat) : i ∈ suresBy t rule ↔ Sure (t.map fun e => rowOf e rule) i := by
  have z := sureUp_is (t.map fun e => rowOf e rule) (t.length + 1) [] List.nodup_nil (fun i m => absurd m (by simp)) (by rw [List.length_map]; simp)
  unfold suresBy
  simp only [List.mem_filter, List.mem_range, List.contains_iff_mem]
  rw [z]
  constructor
  · exact fun h => h.2
  · intro h
    have := h.lt
    rw [List.length_map] at this
    exact ⟨this, h⟩
/-- they stand rising -/
theorem suresBy_eq (t : List Entry) (rule : List Nat) : ∃ p : Nat → Bool, suresBy t rule = (List.range t.length).filter p ∧ ∀ i, i < t.length → (p i = true ↔ Sure (t.map fun e => rowOf e rule) i) := by
  refine ⟨fun i => (sureUp (t.map fun e => rowOf e rule) (t.length + 1) []).contains i, rfl, fun i _ => ?_⟩
  have z := sureUp_is (t.map fun e => rowOf e rule) (t.length + 1) [] List.nodup_nil (fun i m => absurd m (by simp)) (by rw [List.length_map]; simp)
  rw [← z i]
  simp
end RF

/-! ## RFMathC -/
namespace RF
/-! ### counted through: names of all rings, which name is gathered, how much may be told -/
def okName (n k : Nat) : Bool :=
  let ns := Km534.names n k
  ((Km534.allRows n k).all fun r => decide (nameOf (zs r) = zs (Km534.name r)) && ns.contains (Km534.name r)) && ((List.range ns.length).all fun i => Km535.gathered (ns.getD i []) == decide (i = 0)) && decide (0 < ns.length ∧ ns.length ≤ 10)
theorem names_ok : ∀ n, n < 5 → ∀ k, k < 3 → okName (n + 3) (k + 1) = true := by decide +kernel
def okDone (n k e : Nat) : Bool := decide (((Km534.names n k).map fun l => (Km537.allRules (Km534.viewsOf ⟨l, e⟩)).length).sum ≤ 1000)
theorem dones_ok : ∀ n, n < 5 → ∀ k, k < 3 → ∀ e, e < 3 → okDone (n + 3) (k + 1) e = true := by decide +kernel
end RF

/-! ## RFReckM -/
namespace RF
/-! ### the i-th name, and what may be told of the views in it -/
section
variable {S : SB}
theorem set_name (ok : SOk S) : okName S.n S.k = true := by
  have a := names_ok (S.n - 3) (by have := ok.n; omega) (S.k - 1) (by have := ok.k; omega)
  rw [show S.n - 3 + 3 = S.n by have := ok.n; omega, show S.k - 1 + 1 = S.k by have := ok.k; omega] at a
  exact a
theorem name_ok (ok : SOk S) : NameOk S.n S.k := by
  have a := set_name ok
  unfold okName at a
  simp only [Bool.and_eq_true, List.all_eq_true, decide_eq_true_eq, List.contains_iff_mem] at a
  exact ⟨fun r m => (a.1.1 r m).1, fun r m => (a.1.1 r m).2⟩
theorem gathered_at (ok : SOk S) {i : Nat} (h : i < S.names.length) : Km535.gathered (S.ring i) = decide (i = 0) := by
  have a := set_name ok
  unfold okName at a
  simp only [Bool.and_eq_true, List.all_eq_true, beq_iff_eq] at a
  exact a.1.2 i (List.mem_range.mpr (by rw [nlen_eq ok.facts] at h; exact h))
theorem names_pos (ok : SOk S) : 0 < S.names.length := by
  have a := set_name ok
  unfold okName at a
  simp only [Bool.and_eq_true, decide_eq_true_eq] at a
  rw [nlen_eq ok.facts]
  exact a.2.1
theorem names_ten (ok : SOk S) : S.names.length ≤ 10 := by
  have a := set_name ok
  unfold okName at a
  simp only [Bool.and_eq_true, decide_eq_true_eq] at a
  rw [nlen_eq ok.facts]
  exact a.2.2
theorem ring_at (ok : SOk S) {i : Nat} (h : i < S.names.length) : (Km534.names S.n S.k)[i]? = some (S.ring i) := by
  have h2 : i < (Km534.names S.n S.k).length := by have := nlen_eq ok.facts; rw [this] at h; exact h
  unfold SB.ring
  rw [List.getD_eq_getElem?_getD, List.getElem?_eq_getElem h2]
  rfl
theorem ring_in (ok : SOk S) {i : Nat} (h : i < S.names.length) : S.ring i ∈ Km534.names S.n S.k := List.mem_of_getElem? (ring_at ok h)
theorem ring_rows (ok : SOk S) {i : Nat} (h : i < S.names.length) : S.ring i ∈ Km534.allRows S.n S.k := names_rows (ring_in ok h)
theorem ring_zs (ok : SOk S) {i : Nat} (h : i < S.names.length) : S.names.getD i [] = zs (S.ring i) := name_at ok.facts (ring_at ok h)
theorem ring_len (ok : SOk S) {i : Nat} (h : i < S.names.length) : (S.ring i).length = S.n := ((rows_mem _ _ _).mp (ring_rows ok h)).1
theorem ring_few (ok : SOk S) {i : Nat} (h : i < S.names.length) : Few (S.ring i) := rows_few ok.k.2 (ring_rows ok h)
/-- the views that are had in the i-th name -/
def SB.mine (S : SB) (i : Nat) : List (List Nat) := Km534.viewsOf ⟨S.ring i, S.e⟩
theorem mine_in (ok : SOk S) {i : Nat} (h : i < S.names.length) : viewsIn S.e (S.names.getD i []) = (S.mine i).map zs := by
  rw [ring_zs ok h]
  exact ok.facts.vin _ (ring_in ok h)
theorem mine_has (ok : SOk S) {i : Nat} (h : i < S.names.length) {v : List Nat} (m : v ∈ S.mine i) : v ∈ Km537.views (desk S) := ok.facts.has _ (ring_in ok h) v m
theorem who_is (ok : SOk S) {i : Nat} (h : i < S.names.length) : whoOf S i = (S.mine i).map fun v => Km537.place (Km537.views (desk S)) v := by
  unfold whoOf
  rw [mine_in ok h, List.map_map, ok.facts.views]
  exact List.map_congr_left fun v mv => place_eq (mine_has ok h mv)
theorem who_view (ok : SOk S) {i : Nat} (h : i < S.names.length) {j u : Nat} (hu : (whoOf S i)[j]? = some u) : ∃ v, (S.mine i)[j]? = some v ∧ S.views[u]? = some (zs v) := by
  have hu2 := hu
  unfold whoOf at hu2
  rw [mine_in ok h, List.map_map, List.getElem?_map] at hu2
  obtain ⟨v, ev, e⟩ := Option.map_eq_some_iff.mp hu2
  refine ⟨v, ev, ?_⟩
  rw [← e]
  refine (place_at ?_).1
  rw [ok.facts.views]
  exact List.mem_map_of_mem (mine_has ok h (List.mem_of_getElem? ev))
theorem who_lt (ok : SOk S) {i : Nat} (h : i < S.names.length) {u : Nat} (m : u ∈ whoOf S i) : u < S.views.length := by
  obtain ⟨j, hj⟩ := List.getElem?_of_mem m
  obtain ⟨v, _, e⟩ := who_view ok h hj
  exact (List.getElem?_eq_some_iff.mp e).1
theorem done_mem {i : Nat} {done : List Nat} : done ∈ doneOf S i ↔ done.length = (S.mine i).length ∧ ∀ (j : Nat) (v : List Nat) (x : Nat), (S.mine i)[j]? = some v → done[j]? = some x → x < Km537.choices v := rules_mem _ _
/-- what a rule tells of the views of the i-th name -/
def doneBy (S : SB) (i : Nat) (rule : List Nat) : List Nat := (whoOf S i).map fun u => rule.getD u 0
/-- a rule of the object's views -/
def RuleOk (S : SB) (rule : List Nat) : Prop := rule.length = S.views.length ∧ ∀ v x, rule[v]? = some x → x ≤ mostTold (S.views.getD v [])
theorem SOk.ruleOk (ok : SOk S) : RuleOk S S.rule := ⟨ok.rl, ok.le⟩
theorem done_by (ok : SOk S) {i : Nat} (h : i < S.names.length) {rule : List Nat} (r : RuleOk S rule) : doneBy S i rule ∈ doneOf S i := by
  rw [done_mem]
  unfold doneBy
  refine ⟨by rw [List.length_map, who_is ok h, List.length_map], fun j v x hv hx => ?_⟩
  rw [List.getElem?_map] at hx
  obtain ⟨u, hu, rfl⟩ := Option.map_eq_some_iff.mp hx
  obtain ⟨v', hv', e⟩ := who_view ok h hu
  rw [hv] at hv'
  cases Option.some.inj hv'
  have lt : u < rule.length := by rw [r.1]; exact (List.getElem?_eq_some_iff.mp e).1
  have g : S.views.getD u [] = zs v := by rw [List.getD_eq_getElem?_getD, e]; rfl
  have z := r.2 u (rule.getD u 0) (by rw [List.getD_eq_getElem?_getD, List.getElem?_eq_getElem lt]; rfl)
  rw [g] at z
  rw [choices_eq (ok.facts.even v (mine_has ok h (List.mem_of_getElem? hv)))]
  omega
/-- as the specification's desk of moves has it -/
def moveDesk (S : SB) (i : Nat) (done : List Nat) (m : Nat) : Km535.Desk := ⟨⟨S.ring i, S.e⟩, (S.mine i).zip done, m⟩
def tdOf (S : SB) (i : Nat) (done : List Nat) (m p : Nat) : Nat := Km535.told (moveDesk S i done m) (Km534.view ⟨S.ring i, S.e⟩ p).1
theorem setting (ok : SOk S) {i : Nat} (h : i < S.names.length) (done : List Nat) (m : Nat) : Setting (moveDesk S i done m) (S.ring i) (tdOf S i done m) :=
  ⟨ring_few ok h, ok.e, by rw [ring_len ok h]; have := ok.n; omega, fun _ _ _ => rfl⟩
theorem next_of (S : SB) (i : Nat) (done : List Nat) (m : Nat) : nextOf S i done m = (Km535.nextNames (moveDesk S i done m) m (S.ring i)).map fun x => Km537.place (Km534.names S.n S.k) x := rfl
/-- the numbers of the names that come next -/
theorem after_is (ok : SOk S) {i m : Nat} (h : i < S.names.length) (hm : m ≤ 2) (done : List Nat) {M : List (List Int)} (mem : ∀ x, x ∈ M ↔ ∃ r ∈ allAfter (S.names.getD i []) (eagerOf S.e (S.names.getD i []) (tdOf S i done m)) m, x = nameOf r) : bitsOf (M.map (placeIn S.names)) = afterOf S i done m := by
  unfold afterOf
  refine bitsOf_eq fun j => ?_
  have mem2 : ∀ x, x ∈ M ↔ ∃ y ∈ Km535.nextNames (moveDesk S i done m) m (S.ring i), x = zs y := fun x => by
    rw [mem x, ring_zs ok h]
    exact names_next (name_ok ok) (setting ok h done m) (ring_rows ok h) hm x
  rw [next_of, List.mem_map, List.mem_map]
  have pl : ∀ y ∈ Km535.nextNames (moveDesk S i done m) m (S.ring i), placeIn S.names (zs y) = Km537.place (Km534.names S.n S.k) y := fun y my => by
    rw [ok.facts.names]
    exact place_eq (next_in (name_ok ok) (setting ok h done m) (ring_rows ok h) hm my)
  constructor
  · rintro ⟨x, mx, rfl⟩
    obtain ⟨y, my, rfl⟩ := (mem2 x).mp mx
    exact ⟨y, my, (pl y my).symm⟩
  · rintro ⟨y, my, rfl⟩
    exact ⟨zs y, (mem2 _).mpr ⟨y, my, rfl⟩, pl y my⟩
theorem after_in (ok : SOk S) {i m : Nat} (h : i < S.names.length) (hm : m ≤ 2) (done : List Nat) : ∀ r ∈ allAfter (S.names.getD i []) (eagerOf S.e (S.names.getD i []) (tdOf S i done m)) m, nameOf r ∈ S.names := fun r mr => by
  rw [ring_zs ok h] at mr
  obtain ⟨y, my, e⟩ := (names_next (name_ok ok) (setting ok h done m) (ring_rows ok h) hm (nameOf r)).mp ⟨r, mr, rfl⟩
  rw [e, ok.facts.names]
  exact List.mem_map_of_mem (next_in (name_ok ok) (setting ok h done m) (ring_rows ok h) hm my)
/-- at rest, or going on -/
theorem after_zero (ok : SOk S) {i m : Nat} (h : i < S.names.length) (hm : m ≤ 2) (done : List Nat) : afterOf S i done m = 0 ↔ Km535.eager (moveDesk S i done m) (S.ring i) = [] := by
  unfold afterOf
  rw [bitsOf_zero, next_of, List.map_eq_nil_iff]
  exact nextNames_nil (setting ok h done m) hm
theorem next_lt (ok : SOk S) {i m : Nat} (h : i < S.names.length) (hm : m ≤ 2) (done : List Nat) : ∀ j ∈ nextOf S i done m, j < S.names.length := fun j mj => by
  rw [next_of] at mj
  obtain ⟨y, my, rfl⟩ := List.mem_map.mp mj
  have my := next_in (name_ok ok) (setting ok h done m) (ring_rows ok h) hm my
  have z := (place_at (l := S.names) (x := zs y) (by rw [ok.facts.names]; exact List.mem_map_of_mem my)).1
  rw [show Km537.place (Km534.names S.n S.k) y = placeIn S.names (zs y) by rw [ok.facts.names]; exact (place_eq my).symm]
  exact (List.getElem?_eq_some_iff.mp z).1
/-- what is told of a robot's view -/
theorem told_by (ok : SOk S) {i : Nat} (h : i < S.names.length) {done : List Nat} (hd : done ∈ doneOf S i) (m : Nat) {p : Nat} (hp : p < (S.names.getD i []).length) (h0 : 0 < (S.names.getD i []).getD p 0) :
    ∃ (j : Nat) (v : List Nat), lesserRow (seenBy S.e (S.names.getD i [])) p = zs v ∧ (S.mine i)[j]? = some v ∧ done[j]? = some (tdOf S i done m p) := by
  rw [ring_zs ok h] at hp h0 ⊢
  rw [zs_len] at hp
  rw [zs_getD] at h0
  have mv := view_in (l := S.ring i) (e := S.e) hp (by omega)
  obtain ⟨j, hj⟩ := List.getElem?_of_mem mv
  have lt : j < done.length := by rw [(done_mem.mp hd).1]; exact (List.getElem?_eq_some_iff.mp hj).1
  refine ⟨j, _, les_view (ring_few ok h) ok.e p, hj, ?_⟩
  have z : tdOf S i done m p = done[j] := told_at (mine := S.mine i) views_nd hj (List.getElem?_eq_getElem lt)
  rw [z, List.getElem?_eq_getElem lt]
theorem ring_nn (ok : SOk S) {i : Nat} (h : i < S.names.length) : (∀ x ∈ S.names.getD i [], 0 ≤ x) ∧ (S.names.getD i []).sum ≤ 8 := by
  rw [ring_zs ok h]
  refine ⟨fun x m => ?_, ?_⟩
  · obtain ⟨y, _, rfl⟩ := List.mem_map.mp m
    exact Int.natCast_nonneg y
  · rw [zs_sum, ((rows_mem _ _ _).mp (ring_rows ok h)).2]
    have := ok.k
    omega
theorem names_bd (ok : SOk S) : ∀ v ∈ S.names, v.length = S.n ∧ TS.Bd 4 v := fun v m => by
  rw [ok.facts.names] at m
  obtain ⟨l, ml, rfl⟩ := List.mem_map.mp m
  have rr := names_rows ml
  refine ⟨by rw [zs_len]; exact ((rows_mem _ _ _).mp rr).1, fun x mx => ?_⟩
  obtain ⟨y, my, rfl⟩ := List.mem_map.mp mx
  have := rows_few ok.k.2 rr y my
  omega
end
end RF

/-! ## RFReck -/
namespace RF
open PySem PySem.Spec PyProof.Rows L2
theorem nodup_at {α : Type} {l : List α} (nd : l.Nodup) {i j : Nat} {x : α} (h1 : l[i]? = some x) (h2 : l[j]? = some x) : i = j := by
  obtain ⟨a1, b1⟩ := List.getElem?_eq_some_iff.mp h1
  obtain ⟨a2, b2⟩ := List.getElem?_eq_some_iff.mp h2
  rcases Nat.lt_trichotomy i j with c | c | c
  · exact absurd (b1.trans b2.symm) (List.pairwise_iff_getElem.mp nd i j a1 a2 c)
  · exact c
  · exact absurd (b2.trans b1.symm) (List.pairwise_iff_getElem.mp nd j i a2 a1 c)
theorem putK_le {κ : Type} [DecidableEq κ] (c : List (κ × V)) (k : κ) (x : V) : (putK c k x).length ≤ c.length + 1 := by
  unfold putK
  split
  · rw [List.length_map]; exact Nat.le_succ _
  · rw [List.length_append]; exact Nat.le_refl _
/-! ### reckoned_after -/
abbrev sReck : Stmt := top 32
def spReck (P : Program) (w : World) (C : Addr) : Sp := fun vs H Q _ => ∃ (b d : Addr) (own : List Addr) (S : SB) (i m : Nat) (done : List Nat), vs = [.ref b, .int (i : Nat), .ref d, .int (m : Nat)] ∧ Board P w C H b own S ∧ SOk S ∧ i < S.names.length ∧ m ≤ 2 ∧ H d = some (.tup (vN done)) ∧ done ∈ doneOf S i ∧
  ∀ H' : Hp, Same H H' → Q (.int (afterOf S i done m : Nat)) H'
abbrev nReck : List Str := ["board", "number", "done", "moves", "told", "view", "what", "names", "name"]
theorem scReck : FnScope nReck ["board", "number", "done", "moves"] (defScope sReck) := ⟨rfl, rfl, rfl, by decide +kernel, rfl, by decide +kernel, by decide +kernel⟩
section
variable {P : Program} {w : World} {K : PySem.W.Frag} {mg : Str → Option Value} {base : Heap} {C : Addr}
theorem views_at {H : Hp} {b : Addr} {Y : BP} {S : SB} (I : BoardIn P w C H b Y S) {u : Nat} {v : List Int} (h : S.views[u]? = some v) : ∃ p, p ∈ Y.LV ∧ p.2 = v ∧ atI (refs Y.LV) (u : Int) = some (V.ref p.1) := by
  obtain ⟨p, pm, _, pe, pat⟩ := refs_at I.eV (List.getElem?_eq_some_iff.mp h).1
  refine ⟨p, pm, ?_, pat⟩
  rw [pe, List.getD_eq_getElem?_getD, h]
  rfl
theorem ok_reck {f fA fB : Addr} {fd fdA fdB : FuncData} (F : Fun K "reckoned_after" "reckoned_after" sReck f fd) (O : Own mg) (T : Txt K mg C) (A' : Def P w K mg base 4 "names_after" ["ring", "eyes", "told", "moves"] (spAfter K) fA fdA)
    (B' : Def P w K mg base 1 "bits_of" ["numbers"] (spBits K) fB fdB) : FnOk P w K mg base CX0 5 f fd ["board", "number", "done", "moves"] (spReck P w C) := by
  refine F.ok scReck (fun vs H Q E h => ?_) (fun cdv A outer s H vs Q E hr h => ?_)
  · obtain ⟨b, d, own, S, i, m, done, rfl, _⟩ := h
    rfl
  · have hu65 : A.units + 3 + 65 < cLine := by have := hr.un; change A.units + 3 + 16 * 4 + 200 < cLine at this; omega
    refine ⟨_, pss_cons (ps_set (i := 4) scReck.nd rfl (Or.inl rfl) pe_dnewT)
      (pss_cons (ps_for PassesOwn.never rfl (pi_zipM (by rfl) O.zip (pa_cons (pe_ix ix_list (pe_fld (pv 0) rfl) (pv 1) (fun _ _ => rfl)) (pa_cons (pv 2) pa_nil))) (pg_tup rfl (pgs_cons (pg_name (i := 5) scReck.nd rfl (Or.inl rfl)) (pgs_cons (pg_name (i := 6) scReck.nd rfl (Or.inl rfl)) pgs_nil)))
        (pss_one (ps_dput (hu_of hr) (pv 4) (pe_ix ix_list (pe_fld (pv 0) rfl) (pv 5) (fun _ _ => rfl)) (pv 6) rfl)))
      (pss_cons (ps_set (i := 7) scReck.nd rfl (Or.inl rfl) (pe_call A'.ok hr rfl A'.g A'.kp A'.b .nil pass0 (pa_cons (pe_ix ix_list (pe_fld (pv 0) rfl) (pv 1) (fun _ _ => rfl)) (pa_cons (pe_fld (pv 0) rfl) (pa_cons (pv 4) (pa_cons (pv 3) pa_nil))))))
      (pss_one (ps_ret (pe_call B'.ok (hr.mono (by decide)) rfl B'.g B'.kp B'.b .nil pass0 (pa_cons
        (pe_lc (own := [("name", 8)]) (g := gName 8) (tt := tYes) (te := tBM K "list" (rIndexT K) (tFld K (tVar 0) "names") (tCons (tVar 8) tNil)) rfl scReck.nd (pi_list (pv 7)) (blkOk_by (N := nReck) (sc := defScope sReck) (by decide +kernel))
          (fun _ _ _ _ _ => pg_name (i := 8) scReck.nd rfl (Or.inl rfl)) (fun _ _ _ _ _ => pts_nil)
          (fun _ _ _ _ _ => pe_bm PySem.F.plainAttrs_list PySem.F.slot_list_index PySem.F.type_list_index (mt_indexT hu65) (pe_fld (pv 0) rfl) (pa_cons (pv 8) pa_nil))) pa_nil)))))), ?_⟩
    obtain ⟨b, d, own, S, i, m, done, rfl, B, ok, hi, hm, hd, hdone, k⟩ := h
    obtain ⟨Y, I, eo⟩ := id B
    obtain ⟨q0, g1, g2, _⟩ := had_at I hi
    have big : (100000 : Nat) < sizeLine := by decide
    have dl := (done_mem.mp hdone).1
    have wl : (whoOf S i).length = (S.mine i).length := by rw [who_is ok hi, List.length_map]
    intro t ht
    have st := same_new (o := .dT []) ht
    have I1 := I.same st
    refine ⟨_, rfl, b, C, Y.dx, Y.fs, _, rfl, I1.obj, T.cl, T.nH, I1.fH, _, rfl, Y.aH, _, _, _, rfl, rfl, SqL.of I1.hH, g1, _, rfl, q0, d, vN (whoOf S i), vN done, rfl, SqL.of (st _ _ g2), SqT.of (st _ _ hd), ?_⟩
    refine for_it (walk_zipM (K := K) (a := q0) (b := d) (xs := vN (whoOf S i)) (ys := vN done) (by rw [vN_len, vN_len]; omega)) (fun j σ H' => ∃ (u v : Option V) (kvs : List (List Key × V)), σ = [some (.ref b), some (.int (i : Nat)), some (.ref d), some (.int (m : Nat)), some (.ref t), u, v, none, none] ∧ But t H H' ∧ H' t = some (.dT kvs) ∧ kvs.length ≤ j ∧
        ∀ (r : Nat) (v : List Nat) (x : Nat), r < j → (S.mine i)[r]? = some v → done[r]? = some x → valV kvs (kI (zs v)) = some (V.int (x : Nat)))
      ⟨none, none, [], rfl, But.of_same st, upd_same, Nat.le_refl _, fun r v x hr' => absurd hr' (Nat.not_lt_zero _)⟩ (fun j σ H' _ ⟨_, _, _, _, bt, _⟩ => ⟨SqL.of (bt _ _ g2 (fun z => by rw [z, ht] at g2; cases g2)), SqT.of (bt _ _ hd (fun z => by rw [z, ht] at hd; cases hd))⟩) ?_ ?_
    · rintro j x σ H1 H2 hj ⟨u, v, kvs, rfl, bt, h1, len, vals⟩ ⟨T0, x1, x2, rfl, hT0, rfl, e1, e2⟩
      obtain ⟨n1, en1, rfl⟩ := vN_get e1
      obtain ⟨n2, en2, rfl⟩ := vN_get e2
      obtain ⟨v0, ev0, evs⟩ := who_view ok hi en1
      have jl := (List.getElem?_eq_some_iff.mp en1).1
      have s3 := same_new (o := .tup [V.int (n1 : Nat), V.int (n2 : Nat)]) hT0
      have bt2 : But t H (upd H1 T0 (.tup [V.int (n1 : Nat), V.int (n2 : Nat)])) := bt.same s3
      have old : ∀ {y : Addr} {o : HO}, H y = some o → upd H1 T0 (.tup [V.int (n1 : Nat), V.int (n2 : Nat)]) y = some o := fun {y o} e => bt2 y o e (fun z => by rw [z, ht] at e; cases e)
      have I2 : BoardIn P w C (upd H1 T0 (.tup [V.int (n1 : Nat), V.int (n2 : Nat)])) b Y S := I.same fun y o e => old e
      obtain ⟨p, pm, pe, pat⟩ := views_at I2 evs
      have nlen := names_len ok
      have short : (S.mine i).length ≤ 1000 := by
        have z1 := who_len S i
        have z2 := (ring_zs ok hi)
        rw [z2, zs_len, ring_len ok hi] at z1
        have := ok.n
        omega
      refine ⟨T0, _, rfl, SqT.of upd_same, rfl, _, _, rfl, _, _, rfl, rfl, ?_⟩
      refine ⟨_, rfl, _, rfl, _, rfl, b, C, Y.dx, Y.fs, _, rfl, I2.obj, T.cl, T.nV, I2.fV, _, rfl, Y.aV, _, _, _, rfl, rfl, SqL.of I2.hV, pat, t, _, rfl, DPut.t (k := kI (zs v0)) (s3 _ _ h1) (by rw [kI_kV, ← pe]; exact I2.tV p pm) (by omega), ?_⟩
      refine ⟨_, _, _, rfl, bt2.upd, upd_same, Nat.le_trans (putK_le _ _ _) (Nat.succ_le_succ len), fun r v x hr' hv hx => ?_⟩
      rw [valV_put]
      rcases Nat.lt_succ_iff_lt_or_eq.mp hr' with hr' | rfl
      · have ne : ¬ kI (zs v) = kI (zs v0) := fun z => by
          have e := zs_inj (kI_inj z)
          subst e
          have := nodup_at (views_nd (l := S.ring i) (e := S.e)) hv ev0
          omega
        rw [if_neg ne]
        exact vals r v x hr' hv hx
      · rw [ev0] at hv
        cases Option.some.inj hv
        rw [en2] at hx
        cases Option.some.inj hx
        rw [if_pos rfl]
    · rintro σ H1 ⟨u, v, kvs, rfl, bt, h1, len, vals⟩
      have old : ∀ {y : Addr} {o : HO}, H y = some o → H1 y = some o := fun {y o} e => bt y o e (fun z => by rw [z, ht] at e; cases e)
      have s1 : Same H H1 := fun y o e => old e
      have I2 : BoardIn P w C H1 b Y S := I.same s1
      obtain ⟨p, pm, _, pe, pat⟩ := refs_at I2.eN hi
      have nm : S.names.getD i [] ∈ S.names := by rw [List.getD_eq_getElem?_getD, List.getElem?_eq_getElem hi]; exact List.getElem_mem hi
      obtain ⟨sh1, sh2⟩ := short_names ok _ nm
      obtain ⟨nn, s8⟩ := ring_nn ok hi
      rw [vN_len, wl] at vals
      refine ⟨_, rfl, b, C, Y.dx, Y.fs, _, rfl, I2.obj, T.cl, T.nN, I2.fN, _, rfl, Y.aN, _, _, _, rfl, rfl, SqL.of I2.hN, pat, _, rfl, b, C, Y.dx, Y.fs, _, rfl, I2.obj, T.cl, T.nE, I2.fe, _, rfl, _, rfl, ?_⟩
      refine ⟨p.1, t, S.names.getD i [], S.e, m, kvs, tdOf S i done m, S.n, S.names, rfl, by rw [← pe]; exact I2.tN p pm, sh1, sh2, ok.e, nn, s8, h1, fun pp hpp h0 => ?_, by have := ok.n; omega, names_len ok, names_bd ok, after_in ok hi hm done, fun H2 q M s2 n2 hM tM short memM => ?_⟩
      · obtain ⟨j, v, e1, e2, e3⟩ := told_by ok hi hdone m hpp h0
        rw [e1]
        exact vals j v _ (List.getElem?_eq_some_iff.mp e2).1 e2 e3
      · have I3 : BoardIn P w C H2 b Y S := I2.same s2
        have inN : ∀ x ∈ M, x.2 ∈ S.names := fun x mx => by
          obtain ⟨r, mr, e⟩ := (memM x.2).mp (List.mem_map_of_mem mx)
          rw [e]
          exact after_in ok hi hm done r mr
        have is := after_is ok hi hm done memM
        refine ⟨_, rfl, q, rfl, ⟨_, SqL.of hM⟩, fun D hD => ?_⟩
        refine lc_list (K := K) (a := q) (xs := refs M) (fun j H' => H' = upd H2 D (.lst (vN (((M.map (·.2)).take j).map (placeIn S.names))))) rfl (fun j H' _ z => by rw [z]; exact (same_new hD).seq (SqL.of hM)) ?_ ?_
        · rintro j x H3 hj rfl
          obtain ⟨r, ri, rfl⟩ := refs_get hj
          have rm : r ∈ M := List.mem_of_getElem? ri
          have rg : (M.map (·.2))[j]? = some r.2 := snds_at ri
          have jl := (List.getElem?_eq_some_iff.mp rg).1
          obtain ⟨q1, q2⟩ := place_at (inN r rm)
          have sN := same_new (o := .lst (vN (((M.map (·.2)).take j).map (placeIn S.names)))) hD
          have I4 := I3.same sN
          refine ⟨rfl, _, rfl, b, C, Y.dx, Y.fs, _, rfl, I4.obj, T.cl, T.nN, I4.fN, .inl ⟨rfl, _, SqL.of I4.hN⟩, _, rfl, Y.aN, r.1, r.2, Y.LN, placeIn S.names r.2, rfl, rfl, SqL.of I4.hN, I4.tN, SqT.of (sN _ _ (tM r rm)), by rw [I.eN]; exact q1, fun m' hm' => by rw [I.eN]; exact q2 m' hm', _, upd_same, ?_, ?_⟩
          · rw [vN_len, List.length_map, List.length_take, List.length_map]
            omega
          · rw [upd_upd, List.take_succ_eq_append_getElem jl, (List.getElem?_eq_some_iff.mp rg).2]
            unfold vN
            rw [List.map_append, List.map_append]
            rfl
        · rintro H3 rfl
          rw [refs_len, List.take_of_length_le (by rw [List.length_map]; exact Nat.le_refl _)]
          refine ⟨D, _, rfl, .inl (SqL.of upd_same), fun j mj => ?_, ?_⟩
          · obtain ⟨x, mx, rfl⟩ := List.mem_map.mp mj
            obtain ⟨y, my, rfl⟩ := List.mem_map.mp mx
            have := (List.getElem?_eq_some_iff.mp (place_at (inN y my)).1).1
            have := names_len ok
            omega
          · rw [is]
            exact k _ ((s1.trans s2).trans (same_new hD))
end
end RF

/-! ## RFAfterB -/
namespace RF
open PySem PySem.Spec PyProof.Rows L2
/-! ### what is kept of moves -/
section
variable {S : SB}
theorem zN_inj {a b : List Nat} (h : zN a = zN b) : a = b := zs_inj h
def allKeys (S : SB) : List K3 := (List.range S.names.length).flatMap fun i => (doneOf S i).flatMap fun d => ([0, 1, 2] : List Nat).map fun m : Nat => (((i : Nat) : Int), zN d, (m : Int))
theorem key_all {k : K3} {v : Int} (h : KmOk S k v) : k ∈ allKeys S := by
  obtain ⟨i, done, m, rfl, hi, hm, hd, _⟩ := h
  refine List.mem_flatMap.mpr ⟨i, List.mem_range.mpr hi, List.mem_flatMap.mpr ⟨done, hd, List.mem_map.mpr ⟨m, ?_, rfl⟩⟩⟩
  have : m = 0 ∨ m = 1 ∨ m = 2 := by omega
  rcases this with rfl | rfl | rfl <;> simp
theorem three_len {α : Type} (f : List Nat → List α) (h : ∀ d, (f d).length = 3) : ∀ l : List (List Nat), (l.flatMap f).length = 3 * l.length
  | [] => rfl
  | x :: l => by rw [List.flatMap_cons, List.length_append, h, three_len f h l, List.length_cons]; omega
theorem all_len (ok : SOk S) : (allKeys S).length ≤ 3000 := by
  have a := dones_ok (S.n - 3) (by have := ok.n; omega) (S.k - 1) (by have := ok.k; omega) S.e (by have := ok.e; omega)
  rw [show S.n - 3 + 3 = S.n by have := ok.n; omega, show S.k - 1 + 1 = S.k by have := ok.k; omega] at a
  have a := of_decide_eq_true a
  have gen : ∀ (L : List (List Nat)) (g : Nat → List (List Nat)) (r : List Nat), r.length = L.length → (∀ (j i : Nat) (l : List Nat), r[j]? = some i → L[j]? = some l → (g i).length = (Km537.allRules (Km534.viewsOf ⟨l, S.e⟩)).length) → (r.flatMap fun i => (g i).flatMap fun d => ([0, 1, 2] : List Nat).map fun m : Nat => (((i : Nat) : Int), zN d, (m : Int))).length = 3 * (L.map fun l => (Km537.allRules (Km534.viewsOf ⟨l, S.e⟩)).length).sum := by
    intro L
    induction L with
    | nil =>
      intro g r hl _
      rw [List.length_eq_zero_iff.mp hl]
      rfl
    | cons l L ih =>
      intro g r hl h
      cases r with
      | nil => cases hl
      | cons i r =>
        rw [List.flatMap_cons, List.length_append, three_len _ (fun d => rfl), List.map_cons, List.sum_cons, h 0 i l rfl rfl, ih g r (by rw [List.length_cons, List.length_cons] at hl; omega) fun j i' l' h1 h2 => h (j + 1) i' l' h1 h2]
        omega
  have z := gen (Km534.names S.n S.k) (doneOf S) (List.range S.names.length) (by rw [List.length_range, nlen_eq ok.facts]; rfl) fun j i l h1 h2 => by
    have hj := (List.getElem?_eq_some_iff.mp h1).1
    rw [List.length_range] at hj
    rw [List.getElem?_range hj] at h1
    cases Option.some.inj h1
    rw [ring_at ok hj] at h2
    cases Option.some.inj h2
    rfl
  unfold allKeys
  rw [z]
  omega
end
section
variable {P : Program} {w : World} {C : Addr} {H : Hp} {b : Addr} {Y : BP} {S : SB}
theorem km_len (ok : SOk S) (I : BoardIn P w C H b Y S) : Y.km.length ≤ 3000 := by
  have z := nodup_le (Y.km.map (·.1)) (allKeys S) I.nK fun k mk => by
    obtain ⟨x, mx, rfl⟩ := List.mem_map.mp mk
    exact key_all (I.cK x mx)
  rw [List.length_map] at z
  exact Nat.le_trans z (all_len ok)
theorem km_val (I : BoardIn P w C H b Y S) {i m : Nat} {done : List Nat} {v : Int} (h : valN Y.km ((i : Int), zN done, (m : Int)) = some v) : v = (afterOf S i done m : Nat) := by
  unfold valN at h
  obtain ⟨x, hx, rfl⟩ := Option.map_eq_some_iff.mp h
  have e : x.1 = ((i : Int), zN done, (m : Int)) := of_decide_eq_true (List.find?_some (p := fun p : K3 × Addr × Int => decide (p.1 = ((i : Int), zN done, (m : Int)))) hx)
  obtain ⟨i', done', m', e2, _, _, _, ev⟩ := I.cK x (List.mem_of_find?_eq_some hx)
  rw [e] at e2
  injection e2 with h1 e2
  injection e2 with h2 h3
  have h1 : i = i' := by omega
  have h3 : m = m' := by omega
  have h2 := zN_inj h2
  subst h1 h2 h3
  exact ev
/-- one more is kept -/
theorem BoardIn.knows (I : BoardIn P w C H b Y S) {k : K3} {t : Addr} {v : Int} (ok : KmOk S k v) (ht : KeyAt H t k) (n : valN Y.km k = none) : BoardIn P w C (upd H Y.aK (NestO P w Y.aK (Y.km ++ [(k, t, v)]))) b { Y with km := Y.km ++ [(k, t, v)] } S :=
  { I with
    obj := by rw [upd_ne (ne_kinds I.obj I.hK (fun z => by cases z))]; exact I.obj
    hN := by rw [upd_ne (ne_kinds I.hN I.hK (fun z => by cases z))]; exact I.hN
    tN := tups_off I.tN I.hK (fun _ z => by cases z)
    hV := by rw [upd_ne (ne_kinds I.hV I.hK (fun z => by cases z))]; exact I.hV
    tV := tups_off I.tV I.hK (fun _ z => by cases z)
    hH := by rw [upd_ne (ne_kinds I.hH I.hK (fun z => by cases z))]; exact I.hH
    tH := fun x m => by rw [upd_ne (ne_kinds (I.tH x m) I.hK (fun z => by cases z))]; exact I.tH x m
    hM := by rw [upd_ne (ne_kinds I.hM I.hK (fun z => by cases z))]; exact I.hM
    hR := by rw [upd_ne (ne_kinds I.hR I.hK (fun z => by cases z))]; exact I.hR
    hK := upd_same
    tK := fun x m => by
      refine KeyAt.mono (H := H) ?_ fun y vs ey => tup_off ey I.hK (fun _ z => by cases z)
      rcases List.mem_append.mp m with m | m
      · exact I.tK x m
      · rw [List.mem_singleton.mp m]; exact ht
    cK := fun x m => by
      rcases List.mem_append.mp m with m | m
      · exact I.cK x m
      · rw [List.mem_singleton.mp m]; exact ok
    nK := by
      show ((Y.km ++ [(k, t, v)]).map (·.1)).Nodup
      rw [List.map_append, List.nodup_append]
      refine ⟨I.nK, by simp, fun a ma c mc => ?_⟩
      obtain ⟨x, mx, rfl⟩ := List.mem_map.mp ma
      rw [List.mem_singleton.mp mc]
      intro z
      unfold valN at n
      have n := Option.map_eq_none_iff.mp n
      have := List.find?_eq_none.mp n x mx
      exact this (decide_eq_true z)
    hQ := by rw [upd_ne (ne_kinds I.hQ I.hK (fun z => by cases z))]; exact I.hQ
    tQ := fun x m => by rw [upd_ne (ne_kinds (I.tQ x m) I.hK (fun z => by cases z))]; exact I.tQ x m
    rQ := fun x m y my => ⟨tup_off (I.rQ x m y my).1 I.hK (fun _ z => by cases z), tup_off (I.rQ x m y my).2 I.hK (fun _ z => by cases z)⟩ }
end
def tEither (t1 t2 : TE) : TE := fun σ H Q => t1 σ H Q ∨ t2 σ H Q
theorem pe_either {X : Cx} {e : Expr} {t1 t2 : TE} (h1 : PE X e t1) (h2 : PE X e t2) : PE X e (tEither t1 t2) := pe_or2 h1 h2
/-! ### bits_after -/
abbrev sBA : Stmt := top 33
/-- a rule, a list or a tuple -/
def RuleAt (H : Hp) (a : Addr) (rule : List Nat) : Prop := H a = some (.lst (vN rule)) ∨ H a = some (.tup (vN rule))
theorem RuleAt.same {H H' : Hp} {a : Addr} {r : List Nat} (h : RuleAt H a r) (s : Same H H') : RuleAt H' a r := h.elim (fun z => .inl (s _ _ z)) (fun z => .inr (s _ _ z))
theorem RuleAt.off {H H' : Hp} {a k : Addr} {r : List Nat} {P : Program} {w : World} {km : N3} (h : RuleAt H a r) (e : H k = some (NestO P w k km)) (s : But k H H') : RuleAt H' a r := h.elim (fun z => .inl (s _ _ z (ne_kinds z e (fun z => by cases z)))) (fun z => .inr (s _ _ z (ne_kinds z e (fun z => by cases z))))
def spBA (P : Program) (w : World) (C : Addr) : Sp := fun vs H Q _ => ∃ (b ru : Addr) (Y : BP) (S : SB) (i m : Nat) (rule : List Nat), vs = [.ref b, .int (i : Nat), .ref ru, .int (m : Nat)] ∧ BoardIn P w C H b Y S ∧ SOk S ∧ i < S.names.length ∧ m ≤ 2 ∧ RuleAt H ru rule ∧ RuleOk S rule ∧
  ∀ (H' : Hp) (km : N3), BoardIn P w C H' b { Y with km := km } S → But Y.aK H H' → Q (.int (afterOf S i (doneBy S i rule) m : Nat)) H'
abbrev nBA : List Str := ["board", "number", "rule", "moves", "done", "view", "asked"]
theorem scBA : FnScope nBA ["board", "number", "rule", "moves"] (defScope sBA) := ⟨rfl, rfl, rfl, by decide +kernel, rfl, by decide +kernel, by decide +kernel⟩
section
variable {P : Program} {w : World} {K : PySem.W.Frag} {mg : Str → Option Value} {base : Heap} {C : Addr}
theorem ok_ba {f fR : Addr} {fd fdR : FuncData} (F : Fun K "bits_after" "bits_after" sBA f fd) (O : Own mg) (T : Txt K mg C) (R : Def P w K mg base 5 "reckoned_after" ["board", "number", "done", "moves"] (spReck P w C) fR fdR) : FnOk P w K mg base CX0 6 f fd ["board", "number", "rule", "moves"] (spBA P w C) := by
  refine F.ok scBA (fun vs H Q E h => ?_) (fun cdv A outer s H vs Q E hr h => ?_)
  · obtain ⟨b, ru, Y, S, i, m, rule, rfl, _⟩ := h
    rfl
  · have hu65 : A.units + 3 + 64 < cLine := by have := hr.un; change A.units + 3 + 16 * 5 + 200 < cLine at this; omega
    refine ⟨_, pss_cons (ps_set (i := 4) scBA.nd rfl (Or.inl rfl) (pe_callTy call_tuple_of (by rfl) O.tuple (by decide +kernel) (pa_cons
        (pe_lc (own := [("view", 5)]) (g := gName 5) (tt := tYes) (te := tEither (tOp (rIxL K) (tVar 2) (tVar 5)) (tOp (rIxT K) (tVar 2) (tVar 5))) rfl scBA.nd (pi_list (pe_ix ix_list (pe_fld (pv 0) rfl) (pv 1) (fun _ _ => rfl))) (blkOk_by (N := nBA) (sc := defScope sBA) (by decide +kernel))
          (fun _ _ _ _ _ => pg_name (i := 5) scBA.nd rfl (Or.inl rfl)) (fun _ _ _ _ _ => pts_nil)
          (fun _ _ _ _ _ => pe_either (pe_ix ix_list (pv 2) (pv 5) (fun _ _ => rfl)) (pe_ix ix_tup (pv 2) (pv 5) (fun _ _ => rfl)))) pa_nil)))
      (pss_cons (ps_set (i := 6) scBA.nd rfl (Or.inl rfl) (pe_tup (pa_cons (pv 1) (pa_cons (pv 4) (pa_cons (pv 3) pa_nil)))))
      (pss_cons (ps_if (pt_cmp (pc_nnotin (P := P) (w := w) hu65 (pv 6) (pe_fld (pv 0) rfl)))
        (pss_one (ps_nput (P := P) (w := w) hu65 (pe_fld (pv 0) rfl) (pv 6) (pe_call R.ok hr rfl R.g R.kp R.b .nil pass0 (pa_cons (pv 0) (pa_cons (pv 1) (pa_cons (pv 4) (pa_cons (pv 3) pa_nil))))) rfl)) pss_nil)
      (pss_one (ps_ret (pe_nget (P := P) (w := w) hu65 (pe_fld (pv 0) rfl) (pv 6) (fun _ _ => rfl)))))), ?_⟩
    obtain ⟨b, ru, Y, S, i, m, rule, rfl, I, ok, hi, hm, hru, hrule, k⟩ := h
    obtain ⟨q0, g1, g2, _⟩ := had_at I hi
    have big : (100000 : Nat) < sizeLine := by decide
    have wlen : (whoOf S i).length ≤ 100 := by
      have z1 := who_len S i
      rw [ring_zs ok hi, zs_len, ring_len ok hi] at z1
      have := ok.n
      omega
    refine ⟨_, rfl, b, C, Y.dx, Y.fs, _, rfl, I.obj, T.cl, T.nH, I.fH, _, rfl, Y.aH, _, _, _, rfl, rfl, SqL.of I.hH, g1, q0, rfl, ⟨_, SqL.of g2⟩, fun D hD => ?_⟩
    refine lc_list (K := K) (a := q0) (xs := vN (whoOf S i)) (fun j H' => H' = upd H D (.lst (vN ((doneBy S i rule).take j)))) rfl (fun j H' _ z => by rw [z]; exact (same_new hD).seq (SqL.of g2)) ?_ ?_
    · rintro j x H1 hj rfl
      obtain ⟨u, eu, rfl⟩ := vN_get hj
      have jl := (List.getElem?_eq_some_iff.mp eu).1
      have ul : u < rule.length := by rw [hrule.1]; exact who_lt ok hi (List.mem_of_getElem? eu)
      have sD := same_new (o := .lst (vN ((doneBy S i rule).take j))) hD
      have at_ : atI (vN rule) (u : Int) = some (V.int (rule.getD u 0 : Nat)) := by
        refine atI_nat ?_
        unfold vN
        rw [List.getElem?_map, List.getD_eq_getElem?_getD, List.getElem?_eq_getElem ul]
        rfl
      have dj : (doneBy S i rule)[j]? = some (rule.getD u 0) := by unfold doneBy; rw [List.getElem?_map, eu]; rfl
      have fin : ∃ acc, upd H D (.lst (vN ((doneBy S i rule).take j))) D = some (.lst acc) ∧ acc.length < sizeLine ∧ upd (upd H D (.lst (vN ((doneBy S i rule).take j)))) D (.lst (acc ++ [V.int (rule.getD u 0 : Nat)])) = upd H D (.lst (vN ((doneBy S i rule).take (j + 1)))) := by
        refine ⟨_, upd_same, ?_, ?_⟩
        · rw [vN_len, List.length_take]; omega
        · rw [upd_upd, List.take_succ_eq_append_getElem (List.getElem?_eq_some_iff.mp dj).1, (List.getElem?_eq_some_iff.mp dj).2]
          unfold vN
          rw [List.map_append]
          rfl
      refine ⟨rfl, ?_⟩
      rcases hru.same sD with hru | hru
      · exact .inl ⟨_, rfl, _, rfl, ru, _, _, _, rfl, rfl, SqL.of hru, at_, fin⟩
      · exact .inr ⟨_, rfl, _, rfl, ru, _, _, _, rfl, rfl, SqT.of hru, at_, fin⟩
    · rintro H1 rfl
      have dl : (doneBy S i rule).length = (whoOf S i).length := by unfold doneBy; rw [List.length_map]
      rw [vN_len, ← dl, List.take_length]
      have sD := same_new (o := .lst (vN (doneBy S i rule))) hD
      refine ⟨D, _, rfl, .inl ⟨SqL.of upd_same, fun dn hdn => ?_⟩⟩
      have s2 := sD.trans (same_new (o := .tup (vN (doneBy S i rule))) hdn)
      have hdn2 : upd (upd H D (.lst (vN (doneBy S i rule)))) dn (.tup (vN (doneBy S i rule))) dn = some (.tup (vN (doneBy S i rule))) := upd_same
      generalize upd (upd H D (.lst (vN (doneBy S i rule)))) dn (.tup (vN (doneBy S i rule))) = H2 at s2 hdn2 ⊢
      refine ⟨_, rfl, _, rfl, _, rfl, by show 3 ≤ sizeLine; decide, fun t nt => ?_⟩
      have s3 := same_new (o := .tup [V.int (i : Nat), V.ref dn, V.int (m : Nat)]) nt
      have I3 := I.same (s2.trans s3)
      have key : KeyAt (upd H2 t (.tup [V.int (i : Nat), V.ref dn, V.int (m : Nat)])) t ((i : Int), zN (doneBy S i rule), (m : Int)) := ⟨dn, upd_same, by show _ = some (HO.tup ((zN (doneBy S i rule)).map V.int)); rw [← vN_zN]; exact s3 _ _ hdn2⟩
      have hdn3 := s3 _ _ hdn2
      have s03 := s2.trans s3
      generalize upd H2 t (.tup [V.int (i : Nat), V.ref dn, V.int (m : Nat)]) = H3 at s3 I3 key hdn3 s03 ⊢
      refine ⟨_, rfl, _, rfl, b, C, Y.dx, Y.fs, _, rfl, I3.obj, T.cl, T.nY, I3.fK, Y.aK, t, Y.km, _, rfl, rfl, I3.hK, I3.tK, key, _, rfl, ?_⟩
      cases ev : valN Y.km ((i : Int), zN (doneBy S i rule), (m : Int)) with
      | some v =>
        refine iteF ⟨_, rfl, b, C, Y.dx, Y.fs, _, rfl, I3.obj, T.cl, T.nY, I3.fK, _, rfl, Y.aK, t, Y.km, _, v, rfl, rfl, I3.hK, I3.tK, key, ev, ?_⟩
        rw [km_val I3 ev]
        exact k H3 Y.km I3 (But.of_same s03)
      | none =>
        refine iteT ⟨_, rfl, _, rfl, _, rfl, _, rfl, b, dn, _, S, i, m, doneBy S i rule, rfl, ⟨Y, I3, rfl⟩, ok, hi, hm, hdn3, done_by ok hi hrule, fun H4 s4 => ?_⟩
        have I4 := I3.same s4
        have key4 : KeyAt H4 t ((i : Int), zN (doneBy S i rule), (m : Int)) := key.mono fun y vs e => s4 _ _ e
        have kok : KmOk S ((i : Int), zN (doneBy S i rule), (m : Int)) (afterOf S i (doneBy S i rule) m : Nat) := ⟨i, doneBy S i rule, m, rfl, hi, hm, done_by ok hi hrule, rfl⟩
        have I5 := I4.knows kok key4 ev
        have len := km_len ok I
        refine ⟨_, rfl, b, C, Y.dx, Y.fs, _, rfl, I4.obj, T.cl, T.nY, I4.fK, _, rfl, Y.aK, t, Y.km, _, _, rfl, rfl, rfl, I4.hK, I4.tK, key4, ev, by omega, ?_⟩
        refine ⟨_, rfl, b, C, Y.dx, Y.fs, _, rfl, I5.obj, T.cl, T.nY, I5.fK, _, rfl, Y.aK, t, _, _, ((afterOf S i (doneBy S i rule) m : Nat) : Int), rfl, rfl, I5.hK, I5.tK, key4.mono (fun y vs e => tup_off e I4.hK (fun _ z => by cases z)), ?_, ?_⟩
        · have : (Y.km.find? fun p => decide (p.1 = ((i : Int), zN (doneBy S i rule), (m : Int)))) = none := Option.map_eq_none_iff.mp ev
          show valN (Y.km ++ [_]) _ = _
          unfold valN
          rw [List.find?_append, this]
          simp
        · exact k _ _ I5 ((But.of_same (s03.trans s4)).upd)
end
end RF

/-! ## RFSureBy -/
namespace RF
open PySem PySem.Spec PyProof.Rows L2
/-! ### the least set, as the specification's table tells it -/
section
variable {S : SB}
/-- by a rule, of each name what may come next, as bits -/
def aftersBy (S : SB) (rule : List Nat) (m : Nat) : List Nat := (List.range S.names.length).map fun i => afterOf S i (doneBy S i rule) m
def rowAt (S : SB) (rule : List Nat) (m i : Nat) : Km537.Row := ⟨doneBy S i rule, if Km535.eager (moveDesk S i (doneBy S i rule) m) (S.ring i) != [] then 0 else if Km535.gathered (S.ring i) then 1 else 2, nextOf S i (doneBy S i rule) m⟩
theorem table_at (ok : SOk S) {rule : List Nat} (hr : RuleOk S rule) (m : Nat) {i : Nat} (h : i < S.names.length) : ((Km537.table S.base m).map fun e => Km537.rowOf e rule)[i]? = some (rowAt S rule m i) := by
  have e : Km537.table S.base m = (Km534.names S.n S.k).map fun l => Km537.entry S.base m (Km537.views (desk S)) (Km534.names S.n S.k) l := rfl
  rw [e, List.getElem?_map, List.getElem?_map, ring_at ok h]
  show some _ = some _
  congr 1
  show Km537.rowOf (Km537.entry S.base m (Km537.views (desk S)) (Km534.names S.n S.k) (S.ring i)) rule = _
  unfold Km537.rowOf
  have eu : (Km537.entry S.base m (Km537.views (desk S)) (Km534.names S.n S.k) (S.ring i)).uses.map (fun v => rule.getD v 0) = doneBy S i rule := by
    unfold doneBy
    rw [who_is ok h]
    rfl
  rw [eu]
  have er : (Km537.entry S.base m (Km537.views (desk S)) (Km534.names S.n S.k) (S.ring i)).rows = (doneOf S i).map fun r => (⟨r, if Km535.eager (moveDesk S i r m) (S.ring i) != [] then 0 else if Km535.gathered (S.ring i) then 1 else 2, nextOf S i r m⟩ : Km537.Row) := rfl
  rw [er, List.find?_map]
  have hd := done_by ok h hr
  have f : (doneOf S i).find? ((fun r : Km537.Row => r.at_ == doneBy S i rule) ∘ fun r => (⟨r, if Km535.eager (moveDesk S i r m) (S.ring i) != [] then 0 else if Km535.gathered (S.ring i) then 1 else 2, nextOf S i r m⟩ : Km537.Row)) = some (doneBy S i rule) := by
    have ff : ((fun r : Km537.Row => r.at_ == doneBy S i rule) ∘ fun r => (⟨r, if Km535.eager (moveDesk S i r m) (S.ring i) != [] then 0 else if Km535.gathered (S.ring i) then 1 else 2, nextOf S i r m⟩ : Km537.Row)) = fun r => r == doneBy S i rule := rfl
    rw [ff]
    cases e2 : (doneOf S i).find? (fun r => r == doneBy S i rule) with
    | none => exact absurd (beq_self_eq_true _) (List.find?_eq_none.mp e2 _ hd)
    | some x => rw [beq_iff_eq.mp (List.find?_some (p := fun r => r == doneBy S i rule) e2)]
  rw [f]
  rfl
theorem table_len (ok : SOk S) (m : Nat) : (Km537.table S.base m).length = S.names.length := by
  have e : Km537.table S.base m = (Km534.names S.n S.k).map fun l => Km537.entry S.base m (Km537.views (desk S)) (Km534.names S.n S.k) l := rfl
  rw [e, List.length_map, nlen_eq ok.facts]
  rfl
theorem afters_at {rule : List Nat} {m i : Nat} (h : i < S.names.length) : (aftersBy S rule m)[i]? = some (afterOf S i (doneBy S i rule) m) := by
  unfold aftersBy
  rw [List.getElem?_map, List.getElem?_range h]
  rfl
theorem afters_len (rule : List Nat) (m : Nat) : (aftersBy S rule m).length = S.names.length := by unfold aftersBy; rw [List.length_map, List.length_range]
theorem sure_same (ok : SOk S) {rule : List Nat} (hr : RuleOk S rule) {m : Nat} (hm : m ≤ 2) (i : Nat) : SureA (aftersBy S rule m) i ↔ Sure ((Km537.table S.base m).map fun e => Km537.rowOf e rule) i := by
  constructor
  · intro h
    induction h with
    | rest e =>
      have h0 := names_pos ok
      rw [afters_at h0] at e
      have z := (after_zero ok h0 hm _).mp (Option.some.inj e)
      refine .rest (table_at ok hr m h0) ?_
      show (if Km535.eager (moveDesk S 0 (doneBy S 0 rule) m) (S.ring 0) != [] then 0 else if Km535.gathered (S.ring 0) then 1 else 2) = 1
      rw [z, gathered_at ok h0]
      rfl
    | @go i a e c _ ih =>
      have hi : i < S.names.length := by rw [← afters_len (S := S) rule m]; exact (List.getElem?_eq_some_iff.mp e).1
      rw [afters_at hi] at e
      have ea := Option.some.inj e
      have nz : Km535.eager (moveDesk S i (doneBy S i rule) m) (S.ring i) ≠ [] := fun z => c (ea ▸ (after_zero ok hi hm _).mpr z)
      refine .go (table_at ok hr m hi) ?_ fun j mj => ih j ?_
      · show (if Km535.eager (moveDesk S i (doneBy S i rule) m) (S.ring i) != [] then 0 else if Km535.gathered (S.ring i) then 1 else 2) = 0
        rw [if_pos (bne_iff_ne.mpr nz)]
      · rw [← ea]
        unfold afterOf
        rw [bitsOf_test]
        exact decide_eq_true mj
  · intro h
    induction h with
    | @rest i r e h1 =>
      have hi : i < S.names.length := by have := (List.getElem?_eq_some_iff.mp e).1; rw [List.length_map, table_len ok] at this; exact this
      rw [table_at ok hr m hi] at e
      have er := Option.some.inj e
      rw [← er] at h1
      have h1 : (if Km535.eager (moveDesk S i (doneBy S i rule) m) (S.ring i) != [] then 0 else if Km535.gathered (S.ring i) then 1 else 2) = 1 := h1
      split at h1
      · cases h1
      · next c =>
        rw [bne_iff_ne, Classical.not_not] at c
        rw [gathered_at ok hi] at h1
        by_cases c0 : i = 0
        · subst c0
          refine .rest ?_
          rw [afters_at hi, (after_zero ok hi hm _).mpr c]
        · rw [decide_eq_false c0] at h1
          cases h1
    | @go i r e h1 _ ih =>
      have hi : i < S.names.length := by have := (List.getElem?_eq_some_iff.mp e).1; rw [List.length_map, table_len ok] at this; exact this
      rw [table_at ok hr m hi] at e
      have er := Option.some.inj e
      rw [← er] at h1 ih
      have h1 : (if Km535.eager (moveDesk S i (doneBy S i rule) m) (S.ring i) != [] then 0 else if Km535.gathered (S.ring i) then 1 else 2) = 0 := h1
      split at h1
      · next c =>
        refine .go (afters_at hi) (fun z => ?_) fun j hj => ih j ?_
        · exact bne_iff_ne.mp c ((after_zero ok hi hm _).mp z)
        · unfold afterOf at hj
          rw [bitsOf_test] at hj
          exact of_decide_eq_true hj
      · split at h1 <;> cases h1
/-- which names gather surely by a rule, as the specification tells them -/
def suresOf (S : SB) (m : Nat) (rule : List Nat) : List Nat := Km537.suresBy (Km537.table S.base m) rule
theorem sures_bits (ok : SOk S) {rule : List Nat} (hr : RuleOk S rule) {m : Nat} (hm : m ≤ 2) {s : Nat} (h : ∀ i, s.testBit i = true ↔ SureA (aftersBy S rule m) i) : s = bitsOf (suresOf S m rule) := by
  refine Nat.eq_of_testBit_eq fun i => ?_
  rw [Bool.eq_iff_iff, h i, sure_same ok hr hm, bitsOf_test, decide_eq_true_eq]
  exact (suresBy_is _ _ i).symm
theorem sures_lt (ok : SOk S) (m : Nat) (rule : List Nat) : ∀ i ∈ suresOf S m rule, i < S.names.length := fun i mi => by
  have := ((suresBy_is _ _ i).mp mi).lt
  rw [List.length_map, table_len ok] at this
  exact this
end
/-! ### the object stands when a list outside of it changes -/
section
variable {P : Program} {w : World} {C : Addr} {H : Hp} {b : Addr} {p : BP} {S : SB}
theorem BoardIn.off (I : BoardIn P w C H b p S) {D : Addr} {o u : HO} (hD : H D = some u) (k : ∀ vs, u ≠ .tup vs) (n : D ∉ p.own b) : BoardIn P w C (upd H D o) b p S :=
  I.frame (fun x m => upd_ne (fun z => n (z ▸ m))) fun _ _ e => tup_off e hD k
theorem BoardIn.free (I : BoardIn P w C H b p S) {D : Addr} (h : H D = none) : D ∉ p.own b := not_own ⟨p, I, rfl⟩ h
theorem But.updNew {k D : Addr} {H H' : Hp} {o : HO} (h : But k H H') (n : H D = none) : But k H (L2.upd H' D o) := fun x u e ne => by
  rw [upd_ne (fun z => by rw [z, n] at e; cases e)]
  exact h x u e ne
end
/-! ### sure_by -/
abbrev sSureBy : Stmt := top 36
def spSureBy (P : Program) (w : World) (C : Addr) : Sp := fun vs H Q _ => ∃ (b ru : Addr) (Y : BP) (S : SB) (m : Nat) (rule : List Nat), vs = [.ref b, .ref ru, .int (m : Nat)] ∧ BoardIn P w C H b Y S ∧ SOk S ∧ m ≤ 2 ∧ RuleAt H ru rule ∧ RuleOk S rule ∧
  ∀ (H' : Hp) (km : N3), BoardIn P w C H' b { Y with km := km } S → But Y.aK H H' → Q (.int (bitsOf (suresOf S m rule) : Nat)) H'
abbrev nSureBy : List Str := ["board", "rule", "moves", "number"]
theorem scSureBy : FnScope nSureBy ["board", "rule", "moves"] (defScope sSureBy) := ⟨rfl, rfl, rfl, by decide +kernel, rfl, by decide +kernel, by decide +kernel⟩
section
variable {P : Program} {w : World} {K : PySem.W.Frag} {mg : Str → Option Value} {base : Heap} {C : Addr}
theorem ok_sureBy {f fS fB : Addr} {fd fdS fdB : FuncData} (F : Fun K "sure_by" "sure_by" sSureBy f fd) (O : Own mg) (T : Txt K mg C) (N : Def P w K mg base 2 "sure_of" ["afters"] (spSureOf K) fS fdS) (B' : Def P w K mg base 6 "bits_after" ["board", "number", "rule", "moves"] (spBA P w C) fB fdB) :
    FnOk P w K mg base CX0 7 f fd ["board", "rule", "moves"] (spSureBy P w C) := by
  refine F.ok scSureBy (fun vs H Q E h => ?_) (fun cdv A outer s H vs Q E hr h => ?_)
  · obtain ⟨b, ru, Y, S, m, rule, rfl, _⟩ := h
    rfl
  · refine ⟨_, pss_one (ps_ret (pe_call N.ok (hr.mono (by decide)) rfl N.g N.kp N.b .nil pass0 (pa_cons
        (pe_lc (own := [("number", 3)]) (g := gName 3) (tt := tYes) (te := tCall (spBA P w C) [] E0 (tCons (tVar 0) (tCons (tVar 3) (tCons (tVar 1) (tCons (tVar 2) tNil))))) rfl scSureBy.nd (pi_range1 rfl O.range (pa_cons (pe_callB call_len_seq (by rfl) O.len PySem.boot_len (pa_cons (pe_fld (pv 0) rfl) pa_nil)) pa_nil)) (blkOk_by (N := nSureBy) (sc := defScope sSureBy) (by decide +kernel))
          (fun _ _ _ _ _ => pg_name (i := 3) scSureBy.nd rfl (Or.inl rfl)) (fun _ _ _ _ _ => pts_nil)
          (fun _ _ _ _ _ => pe_call B'.ok hr rfl B'.g B'.kp B'.b .nil pass0 (pa_cons (pv 0) (pa_cons (pv 3) (pa_cons (pv 1) (pa_cons (pv 2) pa_nil)))))) pa_nil))), ?_⟩
    obtain ⟨b, ru, Y, S, m, rule, rfl, I, ok, hm, hru, hrule, k⟩ := h
    have nl := names_len ok
    have ln : (refs Y.LN).length = S.names.length := by rw [refs_len, snd_len I.eN]
    have big : (100000 : Nat) < sizeLine := by decide
    refine ⟨_, rfl, b, C, Y.dx, Y.fs, _, rfl, I.obj, T.cl, T.nN, I.fN, Y.aN, _, rfl, .inl (SqL.of I.hN), _, rfl, by rw [ln]; omega, by rw [ln]; omega, fun D hD => ?_⟩
    have nD : D ∉ Y.own b := I.free hD
    refine lc_range (lo := 0) (fun j H' => ∃ km, BoardIn P w C H' b { Y with km := km } S ∧ But Y.aK H H' ∧ H' D = some (.lst (vN ((aftersBy S rule m).take j)))) ⟨Y.km, I.same (same_new hD), But.of_same (same_new hD), upd_same⟩ ?_ ?_
    · rintro j H1 hj ⟨km, I1, b1, h1⟩
      have hj : j < S.names.length := by rw [Int.toNat_natCast, ln] at hj; exact hj
      have e0 : (0 : Int) + (j : Int) = ((j : Nat) : Int) := Int.zero_add _
      refine ⟨rfl, _, rfl, _, rfl, _, rfl, _, rfl, b, ru, { Y with km := km }, S, j, m, rule, by rw [e0]; rfl, I1, ok, hj, hm, hru.off I.hK b1, hrule, fun H2 km2 I2 b2 => ?_⟩
      have aD : D ≠ Y.aK := fun z => nD (by rw [z]; unfold BP.own; simp)
      have h2 : H2 D = some (.lst (vN ((aftersBy S rule m).take j))) := b2 _ _ h1 aD
      have jl : j < (aftersBy S rule m).length := by rw [afters_len]; exact hj
      refine ⟨_, h2, ?_, km2, I2.off h2 (fun _ z => by cases z) nD, ?_, ?_⟩
      · rw [vN_len, List.length_take, afters_len]; omega
      · exact (b1.trans b2).updNew hD
      · rw [upd_same, List.take_succ_eq_append_getElem jl, (List.getElem?_eq_some_iff.mp (afters_at hj)).2]
        unfold vN
        rw [List.map_append]
        rfl
    · rintro H1 ⟨km, I1, b1, h1⟩
      rw [Int.toNat_natCast, ln, ← afters_len (S := S) rule m, List.take_length] at h1
      refine ⟨D, aftersBy S rule m, rfl, SqL.of h1, by rw [afters_len]; omega, fun H2 s s2 lt is => ?_⟩
      rw [sures_bits ok hrule hm is]
      exact k H2 km (I1.same s2) (b1.same s2)
end
end RF

/-! ## RFOrder -/
namespace RF
open PySem PySem.Spec PyProof.Rows L2
/-! ### how many rules there are -/
section
variable {S : SB}
theorem rules_len_snoc (vs : List (List Nat)) (v : List Nat) : (Km537.allRules (vs ++ [v])).length = (Km537.allRules vs).length * Km537.choices v := by
  rw [rules_snoc]
  generalize Km537.allRules vs = L
  induction L with
  | nil => rw [List.flatMap_nil, List.length_nil, Nat.zero_mul]
  | cons x L ih => rw [List.flatMap_cons, List.length_append, ih, List.length_map, List.length_range, List.length_cons, Nat.add_mul, Nat.one_mul, Nat.add_comm]
theorem rules_count (ok : SOk S) : ∀ i, i ≤ (Km537.views (desk S)).length → (Km537.allRules ((Km537.views (desk S)).take i)).length = rulesUp (S.views.take i)
  | 0, _ => rfl
  | i + 1, h => by
    have hi : i < (Km537.views (desk S)).length := h
    have ih := rules_count ok i (Nat.le_of_lt hi)
    have e1 : (Km537.views (desk S))[i]? = some (Km537.views (desk S))[i] := List.getElem?_eq_getElem hi
    have e2 : S.views[i]? = some (zs (Km537.views (desk S))[i]) := by rw [ok.facts.views, List.getElem?_map, e1]; rfl
    have up : rulesUp (S.views.take (i + 1)) = rulesUp (S.views.take i) * (mostTold (zs (Km537.views (desk S))[i]) + 1) := fold_take _ _ e2
    rw [List.take_succ_eq_append_getElem hi, rules_len_snoc, ih, up, choices_eq (ok.facts.even _ (List.getElem_mem hi))]
theorem up_ge : ∀ (l : List (List Int)) (z : Nat), z ≤ l.foldl (fun r v => r * (mostTold v + 1)) z
  | [], _ => Nat.le_refl _
  | v :: l, z => by
    rw [List.foldl_cons]
    exact Nat.le_trans (Nat.le_mul_of_pos_right z (Nat.succ_pos _)) (up_ge l _)
theorem up_take (l : List (List Int)) (i : Nat) : rulesUp (l.take i) ≤ rulesUp l := by
  have e : rulesUp l = (l.drop i).foldl (fun r v => r * (mostTold v + 1)) (rulesUp (l.take i)) := by
    unfold rulesUp
    rw [← List.foldl_append, List.take_append_drop]
  rw [e]
  exact up_ge _ _
theorem views_len2 (ok : SOk S) : S.views.length < 64 := by
  have z := (sortT_perm (keysOf S.e S.names)).length_eq
  have := ok.facts.few
  have e : S.views.length = (sortT (keysOf S.e S.names)).length := rfl
  omega
end
/-! ### rules_in_order -/
abbrev sOrder : Stmt := top 17
abbrev LT := List (Addr × List Nat)
def TupsN (H : Hp) (L : LT) : Prop := ∀ p ∈ L, H p.1 = some (.tup (vN p.2))
theorem TupsN.same {H H' : Hp} {L : LT} (h : TupsN H L) (e : Same H H') : TupsN H' L := fun p m => e _ _ (h p m)
theorem TupsN.snoc {H : Hp} {M : LT} {a : Addr} {ns : List Nat} (h : TupsN H M) (e : H a = some (.tup (vN ns))) : TupsN H (M ++ [(a, ns)]) := fun p m => by
  rcases List.mem_append.mp m with m | m
  · exact h p m
  · rw [List.mem_singleton.mp m]; exact e
theorem TupsN.upd {H : Hp} {M : LT} {D : Addr} {o u : HO} (h : TupsN H M) (hD : H D = some u) (k : ∀ vs, u ≠ .tup vs) : TupsN (upd H D o) M := fun p m => tup_off (h p m) hD k
theorem refH_get {L : LT} {i : Nat} {x : V} (h : (refH L)[i]? = some x) : ∃ p, L[i]? = some p ∧ x = V.ref p.1 := by
  unfold refH at h
  rw [List.getElem?_map] at h
  obtain ⟨p, e, rfl⟩ := Option.map_eq_some_iff.mp h
  exact ⟨p, e, rfl⟩
theorem refH_snoc (M : LT) (a : Addr) (ns : List Nat) : refH M ++ [V.ref a] = refH (M ++ [(a, ns)]) := by
  unfold refH
  rw [List.map_append]
  rfl
theorem LT_len {L : LT} {xss : List (List Nat)} (h : L.map (·.2) = xss) : L.length = xss.length := by rw [← h, List.length_map]
def rulesOf (S : SB) : List (List Nat) := Km537.allRules (Km537.views (desk S))
def spOrder (P : Program) (w : World) (C : Addr) : Sp := fun vs H Q _ => ∃ (b : Addr) (own : List Addr) (S : SB), vs = [.ref b] ∧ Board P w C H b own S ∧ SOk S ∧ rulesUp S.views ≤ 6000 ∧
  ∀ (H' : Hp) (q : Addr) (M : LT), Same H H' → H q = none → H' q = some (.lst (refH M)) → TupsN H' M → M.map (·.2) = rulesOf S → Q (.ref q) H'
abbrev nOrder : List Str := ["board", "rules", "view", "longer", "rule", "done"]
theorem scOrder : FnScope nOrder ["board"] (defScope sOrder) := ⟨rfl, rfl, rfl, by decide +kernel, rfl, by decide +kernel, by decide +kernel⟩
section
variable {P : Program} {w : World} {K : PySem.W.Frag} {mg : Str → Option Value} {base : Heap} {C : Addr}
theorem ok_order {f fM : Addr} {fd fdM : FuncData} (F : Fun K "rules_in_order" "rules_in_order" sOrder f fd) (O : Own mg) (T : Txt K mg C) (N : Def P w K mg base 3 "most_told" ["view"] (spMost K) fM fdM) : FnOk P w K mg base CX0 4 f fd ["board"] (spOrder P w C) := by
  refine F.ok scOrder (fun vs H Q E h => ?_) (fun cdv A outer s H vs Q E hr h => ?_)
  · obtain ⟨b, own, S, rfl, _⟩ := h
    rfl
  · refine ⟨_, pss_cons (ps_set (i := 1) scOrder.nd rfl (Or.inl rfl) (pe_lst (pa_cons (pe_tup pa_nil) pa_nil)))
      (pss_cons (ps_for PassesOwn.never rfl (pi_list (pe_fld (pv 0) rfl)) (pg_name (i := 2) scOrder.nd rfl (Or.inl rfl))
        (pss_cons (ps_set (i := 3) scOrder.nd rfl (Or.inl rfl) (pe_lst pa_nil))
        (pss_cons (ps_for PassesOwn.never rfl (pi_list (pv 1)) (pg_name (i := 4) scOrder.nd rfl (Or.inr rfl))
          (pss_one (ps_expr (pe_bm PySem.F.plainAttrs_list PySem.F.slot_list_extend PySem.F.type_list_extend mt_extend (pv 3) (pa_cons
            (pe_lc (own := [("done", 5)]) (g := gName 5) (tt := tYes) (te := tOp (rCatA K) (tVar 4) (tTup (tCons (tVar 5) tNil))) rfl scOrder.nd (pi_range1 rfl O.range (pa_cons (pe_op op_add (pe_call N.ok hr rfl N.g N.kp N.b .nil pass0 (pa_cons (pv 2) pa_nil)) pe_int) pa_nil)) (blkOk_by (N := nOrder) (sc := defScope sOrder) (by decide +kernel))
              (fun _ _ _ _ _ => pg_name (i := 5) scOrder.nd rfl (Or.inl rfl)) (fun _ _ _ _ _ => pts_nil)
              (fun _ _ _ _ _ => pe_op op_catA (pv 4) (pe_tup (pa_cons (pv 5) pa_nil)))) pa_nil)))))
        (pss_one (ps_set (i := 1) scOrder.nd rfl (Or.inl rfl) (pv 3))))))
      (pss_one (ps_ret (pv 1)))), ?_⟩
    obtain ⟨b, own, S, rfl, B, ok, few, k⟩ := h
    obtain ⟨Y, I, eo⟩ := id B
    have big : (100000 : Nat) < sizeLine := by decide
    have vl := views_len2 ok
    refine ⟨by show 0 ≤ sizeLine; decide, fun e he => ⟨by show 1 ≤ sizeLine; decide, fun D hD => ?_⟩⟩
    have s0 := (same_new (o := .tup []) he).trans (same_new (o := .lst [V.ref e]) hD)
    have eD : e ≠ D := fun z => by rw [← z, upd_same] at hD; cases hD
    have I0 := I.same s0
    refine ⟨_, rfl, b, C, Y.dx, Y.fs, _, rfl, I0.obj, T.cl, T.nV, I0.fV, Y.aV, rfl, ⟨_, SqL.of I0.hV⟩, for_list (K := K) (a := Y.aV) (xs := refs Y.LV) (fun i σ H' => ∃ (c : Addr) (M : LT) (u2 u3 u4 : Option V), σ = [some (.ref b), some (.ref c), u2, u3, u4, none] ∧ Same H H' ∧ H c = none ∧ H' c = some (.lst (refH M)) ∧ TupsN H' M ∧ M.map (·.2) = Km537.allRules ((Km537.views (desk S)).take i))
      ⟨D, [(e, [])], none, none, none, rfl, s0, (same_new he).free hD, upd_same, fun p m => ?_, rfl⟩ (fun i σ H' _ ⟨_, _, _, _, _, _, s1, _⟩ => SqL.of (s1 _ _ I.hV)) ?_ ?_⟩
    · rw [List.mem_singleton.mp m, upd_ne eD, upd_same]
      rfl
    · rintro i x σ H1 hi ⟨c, M, u2, u3, u4, rfl, s1, nc, hc, tM, eM⟩
      obtain ⟨p, pi, rfl⟩ := refs_get hi
      have pm : p ∈ Y.LV := List.mem_of_getElem? pi
      have pg : S.views[i]? = some p.2 := by rw [← I.eV]; exact snds_at pi
      have pg2 := pg
      rw [ok.facts.views, List.getElem?_map] at pg2
      obtain ⟨v, ev, ep⟩ := Option.map_eq_some_iff.mp pg2
      have iv := (List.getElem?_eq_some_iff.mp ev).1
      have ch : Km537.choices v = mostTold p.2 + 1 := by rw [← ep]; exact choices_eq (ok.facts.even v (List.mem_of_getElem? ev))
      have ml := most_le p.2
      obtain ⟨l1, l2⟩ := short_views ok _ (List.mem_of_getElem? pg)
      have step : Km537.allRules ((Km537.views (desk S)).take (i + 1)) = (M.map (·.2)).flatMap fun r => (List.range (Km537.choices v)).map fun m => r ++ [m] := by
        rw [List.take_succ_eq_append_getElem iv, (List.getElem?_eq_some_iff.mp ev).2, rules_snoc, eM]
      have room : M.length * Km537.choices v ≤ 6000 := by
        have z1 := rules_count ok (i + 1) iv
        have z2 := up_take S.views (i + 1)
        rw [List.take_succ_eq_append_getElem iv, (List.getElem?_eq_some_iff.mp ev).2, rules_len_snoc, ← eM, List.length_map] at z1
        omega
      have rlen : ∀ r ∈ M, r.2.length = i := fun r mr => by
        have : r.2 ∈ M.map (·.2) := List.mem_map_of_mem mr
        rw [eM] at this
        rw [((rules_mem _ _).mp this).1, List.length_take]
        omega
      refine ⟨Nat.zero_le _, fun D1 hD1 => ?_⟩
      have sD := same_new (o := .lst []) hD1
      refine ⟨_, rfl, c, rfl, ⟨_, SqL.of (sD _ _ hc)⟩, for_list (K := K) (a := c) (xs := refH M) (fun j σ H' => ∃ (N1 : LT) (u4 : Option V), σ = [some (.ref b), some (.ref c), some (.ref p.1), some (.ref D1), u4, none] ∧ Same H1 H' ∧ H' D1 = some (.lst (refH N1)) ∧ TupsN H' N1 ∧ N1.map (·.2) = ((M.map (·.2)).take j).flatMap fun r => (List.range (Km537.choices v)).map fun m => r ++ [m])
        ⟨[], u4, rfl, sD, upd_same, fun p m => absurd m (by simp), rfl⟩ (fun j σ H' _ ⟨_, _, _, s2, _⟩ => SqL.of (s2 _ _ hc)) ?_ ?_⟩
      · rintro j y σ H2 hj ⟨N1, u4, rfl, s2, hN, tN, eN⟩
        obtain ⟨r, rj, rfl⟩ := refH_get hj
        have rm := List.mem_of_getElem? rj
        have jl := (List.getElem?_eq_some_iff.mp rj).1
        have rl := rlen r rm
        have i63 : i < 64 := by have := (List.getElem?_eq_some_iff.mp pg).1; omega
        refine ⟨_, rfl, .inl ⟨rfl, _, SqL.of hN⟩, _, rfl, p.1, p.2, rfl, SqT.of (s2 _ _ (s1 _ _ (I.tV p pm))), l1, l2, fun H3 s3 => ⟨_, _, rfl, rfl, _, rfl, by omega, by omega, fun D2 hD2 => ?_⟩⟩
        have nt : ((mostTold p.2 : Int) + 1).toNat = Km537.choices v := by omega
        refine lc_range (lo := 0) (fun n H' => Same H3 H' ∧ ∃ N2 : LT, H' D2 = some (.lst (refH N2)) ∧ TupsN H' N2 ∧ N2.map (·.2) = (List.range n).map fun m => r.2 ++ [m]) ⟨same_new hD2, [], upd_same, fun p m => absurd m (by simp), rfl⟩ ?_ ?_
        · rintro n H4 hn ⟨s4, N2, hN2, tN2, eN2⟩
          rw [nt] at hn
          have nl : N2.length = n := by rw [LT_len eN2, List.length_map, List.length_range]
          have hr4 : H4 r.1 = some (.tup (vN r.2)) := s4 _ _ (s3 _ _ (s2 _ _ (tM r rm)))
          have e0 : (0 : Int) + (n : Int) = ((n : Nat) : Int) := Int.zero_add _
          refine ⟨rfl, _, rfl, _, rfl, by show 1 ≤ sizeLine; decide, fun t ht => ?_⟩
          have st := same_new (o := .tup [V.int (0 + (n : Int))]) ht
          have go : ∀ (H5 : Hp) (t' : Addr), Same H4 H5 → H5 t' = some (.tup (vN (r.2 ++ [n]))) → ∃ acc, H5 D2 = some (.lst acc) ∧ acc.length < sizeLine ∧ (Same H3 (upd H5 D2 (.lst (acc ++ [V.ref t']))) ∧ ∃ N2 : LT, upd H5 D2 (.lst (acc ++ [V.ref t'])) D2 = some (.lst (refH N2)) ∧ TupsN (upd H5 D2 (.lst (acc ++ [V.ref t']))) N2 ∧ N2.map (·.2) = (List.range (n + 1)).map fun m => r.2 ++ [m]) := fun H5 t' s5 e5 => by
            refine ⟨refH N2, s5 _ _ hN2, by rw [refH_len]; omega, same_upd (s4.trans s5) hD2, N2 ++ [(t', r.2 ++ [n])], ?_, ?_, ?_⟩
            · rw [upd_same, refH_snoc N2 t' (r.2 ++ [n])]
            · exact ((tN2.same s5).snoc e5).upd (s5 _ _ hN2) (fun _ z => by cases z)
            · rw [List.map_append, eN2, range_snoc]; rfl
          refine ⟨r.1, t, _, _, rfl, rfl, SqT.of (st _ _ hr4), SqT.of upd_same, ?_, fun e => ?_, (fun _ e => by cases e), fun ne _ t2 ht2 => ?_⟩
          · rw [vN_len]
            show r.2.length + 1 ≤ sizeLine
            omega
          · have e1 : r.2 = [] := List.map_eq_nil_iff.mp e
            refine go _ t st ?_
            rw [upd_same, e1, e0]
            rfl
          · refine go _ t2 (st.trans (same_new ht2)) ?_
            rw [upd_same, e0]
            unfold vN
            rw [List.map_append]
            rfl
        · rintro H4 ⟨s4, N2, hN2, tN2, eN2⟩
          rw [nt] at eN2
          have l2' : N2.length = Km537.choices v := by rw [LT_len eN2, List.length_map, List.length_range]
          have l1' : N1.length = j * Km537.choices v := by
            rw [LT_len eN]
            have gen : ∀ L : List (List Nat), (L.flatMap fun r => (List.range (Km537.choices v)).map fun m => r ++ [m]).length = L.length * Km537.choices v := fun L => by
              induction L with
              | nil => rw [List.flatMap_nil, List.length_nil, Nat.zero_mul]
              | cons x L ih => rw [List.flatMap_cons, List.length_append, ih, List.length_map, List.length_range, List.length_cons, Nat.add_mul, Nat.one_mul, Nat.add_comm]
            rw [gen, List.length_take, List.length_map, Nat.min_eq_left (Nat.le_of_lt jl)]
          have rm2 : j * Km537.choices v + Km537.choices v ≤ M.length * Km537.choices v := by
            rw [← Nat.succ_mul]
            exact Nat.mul_le_mul_right _ jl
          have s34 := s3.trans s4
          refine ⟨D1, D2, _, _, rfl, rfl, s34 _ _ hN, hN2, by rw [refH_len, refH_len]; omega, ?_⟩
          refine ⟨N1 ++ N2, some (.ref r.1), rfl, same_upd (s2.trans s34) hD1, ?_, ?_, ?_⟩
          · rw [upd_same]
            unfold refH
            rw [List.map_append]
          · refine TupsN.upd (fun p m => ?_) (s34 _ _ hN) (fun _ z => by cases z)
            rcases List.mem_append.mp m with m | m
            · exact s34 _ _ (tN p m)
            · exact tN2 p m
          · rw [List.map_append, eN, eN2, flat_take _ (M.map (·.2)) j (snds_at rj)]
      · rintro σ H2 ⟨N1, u4, rfl, s2, hN, tN, eN⟩
        rw [refH_len, List.take_of_length_le (by rw [List.length_map]; exact Nat.le_refl _)] at eN
        refine ⟨_, rfl, D1, N1, _, _, _, rfl, s1.trans s2, s1.free hD1, hN, tN, ?_⟩
        rw [eN, step]
    · rintro σ H1 ⟨c, M, u2, u3, u4, rfl, s1, nc, hc, tM, eM⟩
      rw [refs_len, List.take_of_length_le (by rw [← vlen_eq ok.facts, ← snd_len I.eV]; exact Nat.le_refl _)] at eM
      exact ⟨_, rfl, k H1 c M s1 nc hc tM eM⟩
end
end RF

/-! ## RFEach -/
namespace RF
open PySem PySem.Spec PyProof.Rows L2
/-! ### more is known; nothing else has changed -/
structure Knew (P : Program) (w : World) (C : Addr) (H : Hp) (b : Addr) (Y : BP) (S : SB) (H' : Hp) (Y' : BP) : Prop where
  in_ : BoardIn P w C H' b Y' S
  as_ : ∃ km kq, Y' = { Y with km := km, kq := kq }
  sub : ∀ x ∈ Y'.own b, x ∈ Y.own b ∨ H x = none
  keep : ∀ x o, H x = some o → x ≠ Y.aK → x ≠ Y.aQ → H' x = some o
section
variable {P : Program} {w : World} {C : Addr} {H H1 H2 : Hp} {b : Addr} {Y Y1 Y2 : BP} {S : SB}
theorem Knew.refl (I : BoardIn P w C H b Y S) : Knew P w C H b Y S H Y := ⟨I, ⟨Y.km, Y.kq, rfl⟩, fun _ m => .inl m, fun _ _ e _ _ => e⟩
theorem Knew.same (k : Knew P w C H b Y S H1 Y1) (s : Same H1 H2) : Knew P w C H b Y S H2 Y1 := ⟨k.in_.same s, k.as_, k.sub, fun x o e n1 n2 => s _ _ (k.keep x o e n1 n2)⟩
theorem Knew.aK (k : Knew P w C H b Y S H1 Y1) : Y1.aK = Y.aK := by obtain ⟨km, kq, rfl⟩ := k.as_; rfl
theorem Knew.aQ (k : Knew P w C H b Y S H1 Y1) : Y1.aQ = Y.aQ := by obtain ⟨km, kq, rfl⟩ := k.as_; rfl
theorem in_aK : Y.aK ∈ Y.own b := by unfold BP.own; simp
theorem in_aQ : Y.aQ ∈ Y.own b := by unfold BP.own; simp
theorem Knew.new (k : Knew P w C H b Y S H1 Y1) {x : Addr} (h : H1 x = none) : x ∈ Y.own b ∨ H x = none := by
  by_cases c1 : x = Y.aK
  · exact .inl (c1 ▸ in_aK)
  · by_cases c2 : x = Y.aQ
    · exact .inl (c2 ▸ in_aQ)
    · cases e : H x with
      | none => exact .inr rfl
      | some o => rw [k.keep x o e c1 c2] at h; cases h
theorem Knew.trans (k : Knew P w C H b Y S H1 Y1) (l : Knew P w C H1 b Y1 S H2 Y2) : Knew P w C H b Y S H2 Y2 := by
  refine ⟨l.in_, ?_, fun x m => ?_, fun x o e n1 n2 => l.keep x o (k.keep x o e n1 n2) (by rw [k.aK]; exact n1) (by rw [k.aQ]; exact n2)⟩
  · obtain ⟨km, kq, rfl⟩ := k.as_
    obtain ⟨km2, kq2, rfl⟩ := l.as_
    exact ⟨km2, kq2, rfl⟩
  · rcases l.sub x m with z | z
    · exact k.sub x z
    · exact k.new z
theorem Knew.keeps (k : Knew P w C H b Y S H1 Y1) : Keeps H (Y.own b) H1 := fun x o e n => k.keep x o e (fun z => n (z ▸ in_aK)) (fun z => n (z ▸ in_aQ))
/-- where nothing stood before nothing of the object stands, or it is new -/
theorem Knew.fresh (k : Knew P w C H b Y S H1 Y1) (I : BoardIn P w C H b Y S) {x : Addr} (h : H1 x = none) : H x = none := by
  cases e : H x with
  | none => rfl
  | some o =>
    rcases k.new h with m | m
    · by_cases c1 : x = Y.aK
      · rw [c1] at h
        have := k.in_.hK
        rw [k.aK, h] at this
        cases this
      · by_cases c2 : x = Y.aQ
        · rw [c2] at h
          have := k.in_.hQ
          rw [k.aQ, h] at this
          cases this
        · rw [k.keep x o e c1 c2] at h; cases h
    · rw [m] at e; cases e
theorem Knew.tup (k : Knew P w C H b Y S H1 Y1) (I : BoardIn P w C H b Y S) {x : Addr} {vs : List V} (e : H x = some (.tup vs)) : H1 x = some (.tup vs) := k.keep x _ e (ne_kinds e I.hK (fun z => by cases z)) (ne_kinds e I.hQ (fun z => by cases z))
theorem Knew.lst (k : Knew P w C H b Y S H1 Y1) (I : BoardIn P w C H b Y S) {x : Addr} {vs : List V} (e : H x = some (.lst vs)) : H1 x = some (.lst vs) := k.keep x _ e (ne_kinds e I.hK (fun z => by cases z)) (ne_kinds e I.hQ (fun z => by cases z))
end
/-! ### rules -/
section
variable {S : SB}
theorem rule_of (ok : SOk S) {r : List Nat} (h : r ∈ rulesOf S) : RuleOk S r := by
  obtain ⟨h1, h2⟩ := (rules_mem _ _).mp h
  refine ⟨by rw [h1, vlen_eq ok.facts], fun v x e => ?_⟩
  have lv : v < (Km537.views (desk S)).length := by rw [← h1]; exact (List.getElem?_eq_some_iff.mp e).1
  have ev := List.getElem?_eq_getElem lv
  have z := h2 v _ x ev e
  rw [choices_eq (ok.facts.even _ (List.getElem_mem lv))] at z
  rw [view_at ok.facts ev]
  omega
theorem sure_each (S : SB) (m : Nat) : sureEach S m = (rulesOf S).map fun r => (r, bitsOf (suresOf S m r)) := by
  unfold sureEach
  have e : Km537.allSures S.base m = (rulesOf S).map fun r => (r, suresOf S m r) := rfl
  rw [e, List.map_map]
  rfl
theorem rules_len (ok : SOk S) : (rulesOf S).length = rulesUp S.views := by
  have z := rules_count ok (Km537.views (desk S)).length (Nat.le_refl _)
  rw [List.take_length, ← vlen_eq ok.facts, List.take_length] at z
  exact z
end
/-! ### the dict of what is known by rules -/
section
variable {P : Program} {w : World} {C : Addr} {H : Hp} {b : Addr} {Y : BP} {S : SB}
theorem kq_some {kq : List (Nat × Addr × List QE)} {m : Nat} {v : V} (h : valV (kqD kq) (keyN m) = some v) : ∃ q L, (m, q, L) ∈ kq ∧ v = .ref q := by
  unfold valV kqD at h
  obtain ⟨x, hx, rfl⟩ := Option.map_eq_some_iff.mp h
  have e := of_decide_eq_true (List.find?_some (p := fun kv : Key × V => decide (kv.1 = keyN m)) hx)
  obtain ⟨y, my, rfl⟩ := List.mem_map.mp (List.mem_of_find?_eq_some hx)
  have e : y.1 = m := keyN_inj e
  subst e
  exact ⟨y.2.1, y.2.2, my, rfl⟩
theorem kq_none {kq : List (Nat × Addr × List QE)} {m : Nat} (h : valV (kqD kq) (keyN m) = none) : ∀ x ∈ kq, x.1 ≠ m := fun x mx z => by
  unfold valV kqD at h
  have h := Option.map_eq_none_iff.mp h
  have := List.find?_eq_none.mp h (keyN x.1, V.ref x.2.1) (List.mem_map.mpr ⟨x, mx, rfl⟩)
  rw [z] at this
  exact this (decide_eq_true rfl)
theorem kq_len (I : BoardIn P w C H b Y S) : Y.kq.length ≤ 3 := by
  have z := pigeonN 3 (Y.kq.map (·.1)) I.nQ fun i mi => by
    obtain ⟨x, mx, rfl⟩ := List.mem_map.mp mi
    have := I.lQ x mx
    omega
  rw [List.length_map] at z
  exact z
theorem BoardIn.knowsQ (I : BoardIn P w C H b Y S) {m : Nat} {D : Addr} {L : List QE} (hm : m ≤ 2) (no : ∀ x ∈ Y.kq, x.1 ≠ m) (hD : H D = some (.lst (refQ L))) (hL : ∀ y ∈ L, H y.1 = some (.tup [.ref y.2.1, .int (y.2.2.2 : Nat)]) ∧ H y.2.1 = some (.tup (vN y.2.2.1))) (eL : (L.map fun y => y.2.2) = sureEach S m) (nD : D ≠ Y.aR) :
    BoardIn P w C (upd H Y.aQ (.dK (kqD (Y.kq ++ [(m, D, L)])))) b { Y with kq := Y.kq ++ [(m, D, L)] } S :=
  { I with
    obj := by rw [upd_ne (ne_kinds I.obj I.hQ (fun z => by cases z))]; exact I.obj
    hN := by rw [upd_ne (ne_kinds I.hN I.hQ (fun z => by cases z))]; exact I.hN
    tN := tups_off I.tN I.hQ (fun _ z => by cases z)
    hV := by rw [upd_ne (ne_kinds I.hV I.hQ (fun z => by cases z))]; exact I.hV
    tV := tups_off I.tV I.hQ (fun _ z => by cases z)
    hH := by rw [upd_ne (ne_kinds I.hH I.hQ (fun z => by cases z))]; exact I.hH
    tH := fun x m => by rw [upd_ne (ne_kinds (I.tH x m) I.hQ (fun z => by cases z))]; exact I.tH x m
    hM := by rw [upd_ne I.dMQ]; exact I.hM
    hR := by rw [upd_ne (ne_kinds I.hR I.hQ (fun z => by cases z))]; exact I.hR
    hK := by rw [upd_ne (ne_kinds I.hK I.hQ (fun z => by cases z))]; exact I.hK
    tK := keys_off I.tK I.hQ (fun _ z => by cases z)
    hQ := upd_same
    nQ := by
      show ((Y.kq ++ [(m, D, L)]).map (·.1)).Nodup
      rw [List.map_append, List.nodup_append]
      refine ⟨I.nQ, by simp, fun a ma c mc => ?_⟩
      obtain ⟨x, mx, rfl⟩ := List.mem_map.mp ma
      rw [List.mem_singleton.mp mc]
      exact no x mx
    lQ := fun x mx => by
      rcases List.mem_append.mp mx with mx | mx
      · exact I.lQ x mx
      · rw [List.mem_singleton.mp mx]; exact hm
    tQ := fun x mx => by
      rcases List.mem_append.mp mx with mx | mx
      · rw [upd_ne (ne_kinds (I.tQ x mx) I.hQ (fun z => by cases z))]; exact I.tQ x mx
      · rw [List.mem_singleton.mp mx, upd_ne (ne_kinds hD I.hQ (fun z => by cases z))]; exact hD
    rQ := fun x mx y my => by
      rcases List.mem_append.mp mx with mx | mx
      · exact ⟨tup_off (I.rQ x mx y my).1 I.hQ (fun _ z => by cases z), tup_off (I.rQ x mx y my).2 I.hQ (fun _ z => by cases z)⟩
      · rw [List.mem_singleton.mp mx] at my
        exact ⟨tup_off (hL y my).1 I.hQ (fun _ z => by cases z), tup_off (hL y my).2 I.hQ (fun _ z => by cases z)⟩
    cQ := fun x mx => by
      rcases List.mem_append.mp mx with mx | mx
      · exact I.cQ x mx
      · rw [List.mem_singleton.mp mx]; exact eL
    dis := fun x mx => by
      unfold BP.lists at mx
      simp only [List.map_append, List.mem_cons, List.mem_append, List.map_cons, List.map_nil, List.not_mem_nil, or_false] at mx
      rcases mx with h | h | h | h | h | h
      · exact I.dis x (by rw [h]; simp)
      · exact I.dis x (by rw [h]; simp)
      · exact I.dis x (by rw [h]; simp)
      · exact I.dis x (by unfold BP.lists; simp [h])
      · exact I.dis x (by unfold BP.lists; simp [h])
      · rw [h]; exact nD }
end
/-! ### sure_by_each -/
abbrev sEach : Stmt := top 37
def spEach (P : Program) (w : World) (C : Addr) : Sp := fun vs H Q _ => ∃ (b : Addr) (Y : BP) (S : SB) (m : Nat), vs = [.ref b, .int (m : Nat)] ∧ BoardIn P w C H b Y S ∧ SOk S ∧ m ≤ 2 ∧ rulesUp S.views ≤ 6000 ∧
  ∀ (H' : Hp) (Y' : BP) (q : Addr) (L : List QE), Knew P w C H b Y S H' Y' → (m, q, L) ∈ Y'.kq → Q (.ref q) H'
abbrev nEach : List Str := ["board", "moves", "rule"]
theorem scEach : FnScope nEach ["board", "moves"] (defScope sEach) := ⟨rfl, rfl, rfl, by decide +kernel, rfl, by decide +kernel, by decide +kernel⟩
section
variable {P : Program} {w : World} {K : PySem.W.Frag} {mg : Str → Option Value} {base : Heap} {C : Addr}
theorem ok_each {f fO fB : Addr} {fd fdO fdB : FuncData} (F : Fun K "sure_by_each" "sure_by_each" sEach f fd) (T : Txt K mg C) (N : Def P w K mg base 4 "rules_in_order" ["board"] (spOrder P w C) fO fdO) (B' : Def P w K mg base 7 "sure_by" ["board", "rule", "moves"] (spSureBy P w C) fB fdB) :
    FnOk P w K mg base CX0 8 f fd ["board", "moves"] (spEach P w C) := by
  refine F.ok scEach (fun vs H Q E h => ?_) (fun cdv A outer s H vs Q E hr h => ?_)
  · obtain ⟨b, Y, S, m, rfl, _⟩ := h
    rfl
  · refine ⟨_, pss_cons (ps_if (pt_cmp (pc_dnotin (hu_of hr) (pv 1) (pe_fld (pv 0) rfl)))
        (pss_one (ps_dput (hu_of hr) (pe_fld (pv 0) rfl) (pv 1)
          (pe_lc (own := [("rule", 2)]) (g := gName 2) (tt := tYes) (te := tTup (tCons (tVar 2) (tCons (tCall (spSureBy P w C) [] E0 (tCons (tVar 0) (tCons (tVar 2) (tCons (tVar 1) tNil)))) tNil))) rfl scEach.nd (pi_list (pe_call N.ok (hr.mono (by decide)) rfl N.g N.kp N.b .nil pass0 (pa_cons (pv 0) pa_nil))) (blkOk_by (N := nEach) (sc := defScope sEach) (by decide +kernel))
            (fun _ _ _ _ _ => pg_name (i := 2) scEach.nd rfl (Or.inl rfl)) (fun _ _ _ _ _ => pts_nil)
            (fun _ _ _ _ _ => pe_tup (pa_cons (pv 2) (pa_cons (pe_call B'.ok hr rfl B'.g B'.kp B'.b .nil pass0 (pa_cons (pv 0) (pa_cons (pv 2) (pa_cons (pv 1) pa_nil)))) pa_nil)))) rfl)) pss_nil)
      (pss_one (ps_ret (pe_dget (hu_of hr) (pe_fld (pv 0) rfl) (pv 1) (fun _ _ => rfl)))), ?_⟩
    obtain ⟨b, Y, S, m, rfl, I, ok, hm, few, k⟩ := h
    have big : (100000 : Nat) < sizeLine := by decide
    refine ⟨_, rfl, _, rfl, b, C, Y.dx, Y.fs, _, rfl, I.obj, T.cl, T.nQ, I.fQ, Y.aQ, _, rfl, DGet.k (k := keyN m) I.hQ, _, rfl, ?_⟩
    cases ev : valV (kqD Y.kq) (keyN m) with
    | some v =>
      obtain ⟨q, L, mq, rfl⟩ := kq_some ev
      refine iteF ⟨_, rfl, b, C, Y.dx, Y.fs, _, rfl, I.obj, T.cl, T.nQ, I.fQ, _, rfl, Y.aQ, _, rfl, by have z := DGet.k (k := keyN m) I.hQ; rw [ev] at z; exact z, ?_⟩
      exact k H Y q L (Knew.refl I) mq
    | none =>
      refine iteT ⟨_, rfl, b, _, S, rfl, ⟨Y, I, rfl⟩, ok, few, fun H1 q M s1 n1 hq tM eM => ?_⟩
      have I1 := I.same s1
      refine ⟨q, rfl, ⟨_, SqL.of hq⟩, fun D hD => ?_⟩
      have sD := same_new (o := .lst []) hD
      have nD : D ∉ Y.own b := I1.free hD
      have aD : D ≠ Y.aK := fun z => nD (z ▸ in_aK)
      have qK : q ≠ Y.aK := ne_kinds hq I1.hK (fun z => by cases z)
      have ml : M.length ≤ 6000 := by rw [LT_len eM, rules_len ok]; exact few
      refine lc_list (K := K) (a := q) (xs := refH M) (fun j H' => ∃ (km : N3) (L : List QE), BoardIn P w C H' b { Y with km := km } S ∧ But Y.aK H1 H' ∧ H' D = some (.lst (refQ L)) ∧ (∀ y ∈ L, H' y.1 = some (.tup [.ref y.2.1, .int (y.2.2.2 : Nat)]) ∧ H' y.2.1 = some (.tup (vN y.2.2.1))) ∧ (L.map fun y => y.2.2) = ((rulesOf S).take j).map fun r => (r, bitsOf (suresOf S m r)))
        ⟨Y.km, [], I1.same sD, But.of_same sD, upd_same, fun y my => absurd my (by simp), rfl⟩ (fun j H' _ ⟨_, _, _, bt, _⟩ => SqL.of (bt _ _ hq qK)) ?_ ?_
      · rintro j x H2 hj ⟨km, L, I2, b2, h2, rL, eL⟩
        obtain ⟨r, rj, rfl⟩ := refH_get hj
        have rm := List.mem_of_getElem? rj
        have rg : (rulesOf S)[j]? = some r.2 := by rw [← eM]; exact snds_at rj
        have jl := (List.getElem?_eq_some_iff.mp rg).1
        have hr2 : H2 r.1 = some (.tup (vN r.2)) := b2 _ _ (tM r rm) (ne_kinds (tM r rm) I1.hK (fun z => by cases z))
        refine ⟨rfl, _, rfl, _, rfl, _, rfl, _, rfl, b, r.1, { Y with km := km }, S, m, r.2, rfl, I2, ok, hm, .inr hr2, rule_of ok (List.mem_of_getElem? rg), fun H3 km3 I3 b3 => ?_⟩
        refine ⟨by show 2 ≤ sizeLine; decide, fun t ht => ?_⟩
        have h3 := b3 _ _ h2 aD
        have st := same_new (o := .tup [V.ref r.1, V.int (bitsOf (suresOf S m r.2) : Nat)]) ht
        have tup3 : ∀ {y : Addr} {vs : List V}, H2 y = some (.tup vs) → H3 y = some (.tup vs) := fun {y vs} e => b3 _ _ e (ne_kinds e I2.hK (fun z => by cases z))
        have tD : ∀ {y : Addr} {vs : List V} {o : HO}, upd H3 t (.tup [V.ref r.1, V.int (bitsOf (suresOf S m r.2) : Nat)]) y = some (.tup vs) → upd (upd H3 t (.tup [V.ref r.1, V.int (bitsOf (suresOf S m r.2) : Nat)])) D o y = some (.tup vs) := fun {y vs o} e => tup_off e (st _ _ h3) (fun _ z => by cases z)
        have ll : L.length ≤ 6000 := by
          have z := congrArg List.length eL
          rw [List.length_map, List.length_map, List.length_take, rules_len ok] at z
          omega
        refine ⟨_, st _ _ h3, by unfold refQ; rw [List.length_map]; omega, km3, L ++ [(t, r.1, r.2, bitsOf (suresOf S m r.2))], (I3.same st).off (st _ _ h3) (fun _ z => by cases z) nD, ((b2.trans b3).same st).updNew hD, ?_, fun y my => ?_, ?_⟩
        · rw [upd_same]
          unfold refQ
          rw [List.map_append]
          rfl
        · rcases List.mem_append.mp my with my | my
          · exact ⟨tD (st _ _ (tup3 (rL y my).1)), tD (st _ _ (tup3 (rL y my).2))⟩
          · rw [List.mem_singleton.mp my]
            exact ⟨tD upd_same, tD (st _ _ (tup3 hr2))⟩
        · rw [List.map_append, eL, List.take_succ_eq_append_getElem jl, List.map_append, (List.getElem?_eq_some_iff.mp rg).2]
          rfl
      · rintro H2 ⟨km, L, I2, b2, h2, rL, eL⟩
        rw [refH_len, LT_len eM, List.take_length, ← sure_each] at eL
        have DR : D ≠ Y.aR := fun z => nD (by rw [z]; unfold BP.own; simp)
        have DQ : D ≠ Y.aQ := fun z => nD (z ▸ in_aQ)
        have I3 := I2.knowsQ hm (kq_none ev) h2 rL eL DR
        have lq := kq_len I
        refine ⟨_, rfl, b, C, Y.dx, Y.fs, _, rfl, I2.obj, T.cl, T.nQ, I2.fQ, _, rfl, Y.aQ, _, rfl, DPut.k (k := keyN m) I2.hQ (by unfold kqD; rw [List.length_map]; show Y.kq.length < sizeLine; omega), ?_⟩
        have ep : putK (kqD Y.kq) (keyN m) (V.ref D) = kqD (Y.kq ++ [(m, D, L)]) := by
          rw [putK_new _ ev]
          unfold kqD
          rw [List.map_append]
          rfl
        rw [show ({ Y with km := km } : BP).kq = Y.kq from rfl, ep]
        have gv : valV (kqD (Y.kq ++ [(m, D, L)])) (keyN m) = some (V.ref D) := by
          rw [← ep, valV_put, if_pos rfl]
        refine ⟨_, rfl, b, C, Y.dx, Y.fs, _, rfl, I3.obj, T.cl, T.nQ, I3.fQ, _, rfl, Y.aQ, _, rfl, by have z := DGet.k (k := keyN m) I3.hQ; rw [gv] at z; exact z, ?_⟩
        refine k _ _ D L ⟨I3, ⟨km, _, rfl⟩, fun x mx => ?_, fun x o e n1' n2' => ?_⟩ (List.mem_append_right _ (List.mem_singleton.mpr rfl))
        · unfold BP.own BP.lists at mx ⊢
          simp only [List.map_append, List.mem_cons, List.mem_append, List.map_cons, List.map_nil, List.not_mem_nil, or_false] at mx ⊢
          rcases mx with h | h | h | h | h | h | h | h | h | h | h
          · exact .inl (.inl h)
          · exact .inl (.inr (.inl h))
          · exact .inl (.inr (.inr (.inl h)))
          · exact .inl (.inr (.inr (.inr (.inl h))))
          · exact .inl (.inr (.inr (.inr (.inr (.inl h)))))
          · exact .inl (.inr (.inr (.inr (.inr (.inr (.inl h))))))
          · exact .inl (.inr (.inr (.inr (.inr (.inr (.inr (.inl h)))))))
          · exact .inl (.inr (.inr (.inr (.inr (.inr (.inr (.inr (.inl h))))))))
          · exact .inl (.inr (.inr (.inr (.inr (.inr (.inr (.inr (.inr (.inl h)))))))))
          · exact .inl (.inr (.inr (.inr (.inr (.inr (.inr (.inr (.inr (.inr h)))))))))
          · exact .inr (h ▸ s1.free hD)
        · rw [upd_ne n2']
          exact b2 _ _ (s1 _ _ e) n1'
end
end RF

/-! ## RFGood -/
namespace RF
open PySem PySem.Spec PyProof.Rows L2
/-! ### which rules are good -/
section
variable {S : SB}
/-- the marked names, rising -/
def SB.marks (S : SB) : List Nat := risen S.names.length S.ord
def isGood (S : SB) (m : Nat) (r : List Nat) : Bool := Km537.goodFor S.marks (suresOf S m r)
def goodOf (S : SB) (m : Nat) : List (List Nat) := (rulesOf S).filter (isGood S m)
theorem marks_mem (ok : SOk S) {i : Nat} : i ∈ S.marks ↔ i ∈ S.ord := by
  unfold SB.marks
  rw [risen_mem]
  exact ⟨fun z => z.2, fun z => ⟨ok.lt i z, z⟩⟩
theorem bits_within {s o : List Nat} : bitsOf s &&& bitsOf o = bitsOf o ↔ ∀ i ∈ o, i ∈ s := by
  rw [Nat.and_comm, bits_sub]
  constructor
  · intro h i mi
    have := h i (by rw [bitsOf_test]; exact decide_eq_true mi)
    rw [bitsOf_test] at this
    exact of_decide_eq_true this
  · intro h i hi
    rw [bitsOf_test] at hi ⊢
    exact decide_eq_true (h i (of_decide_eq_true hi))
theorem good_bits (ok : SOk S) (s : List Nat) : decide (bitsOf s &&& bitsOf S.ord = bitsOf S.ord) = Km537.goodFor S.marks s := by
  unfold Km537.goodFor
  rw [Bool.eq_iff_iff, decide_eq_true_eq, bits_within, List.all_eq_true]
  constructor
  · exact fun h i mi => by rw [List.contains_iff_mem]; exact h i ((marks_mem ok).mp mi)
  · exact fun h i mi => List.contains_iff_mem.mp (h i ((marks_mem ok).mpr mi))
end
/-! ### good_rules -/
abbrev sGood : Stmt := top 38
/-- the good ones of what is kept -/
def goodQ (S : SB) (L : List QE) : List QE := L.filter fun y => decide (y.2.2.2 &&& bitsOf S.ord = bitsOf S.ord)
def toLT (L : List QE) : LT := L.map fun y => (y.2.1, y.2.2.1)
theorem good_q {S : SB} (ok : SOk S) {m : Nat} {L : List QE} (h : (L.map fun y => y.2.2) = sureEach S m) : (toLT (goodQ S L)).map (·.2) = goodOf S m := by
  unfold toLT goodQ goodOf
  rw [List.map_map]
  have e1 : ((fun x : Addr × List Nat => x.2) ∘ fun y : QE => (y.2.1, y.2.2.1)) = (fun z : List Nat × Nat => z.1) ∘ fun y : QE => y.2.2 := rfl
  rw [e1, ← List.map_map]
  have e2 : (L.filter fun y => decide (y.2.2.2 &&& bitsOf S.ord = bitsOf S.ord)).map (fun y : QE => y.2.2) = (L.map fun y => y.2.2).filter fun z => decide (z.2 &&& bitsOf S.ord = bitsOf S.ord) := by rw [List.filter_map]; rfl
  rw [e2, h, sure_each, List.filter_map, List.map_map]
  have e3 : ((fun z : List Nat × Nat => z.1) ∘ fun r : List Nat => (r, bitsOf (suresOf S m r))) = id := rfl
  rw [e3, List.map_id]
  refine List.filter_congr fun r _ => ?_
  exact good_bits ok _
def spGood (P : Program) (w : World) (C : Addr) : Sp := fun vs H Q _ => ∃ (b : Addr) (Y : BP) (S : SB) (m : Nat), vs = [.ref b, .int (m : Nat)] ∧ BoardIn P w C H b Y S ∧ SOk S ∧ m ≤ 2 ∧ rulesUp S.views ≤ 6000 ∧
  ∀ (H' : Hp) (Y' : BP) (q : Addr) (M : LT), Knew P w C H b Y S H' Y' → H q = none → q ∉ Y'.own b → H' q = some (.lst (refH M)) → TupsN H' M → M.map (·.2) = goodOf S m → Q (.ref q) H'
abbrev nGood : List Str := ["board", "moves", "wanted", "rule", "sure"]
theorem scGood : FnScope nGood ["board", "moves"] (defScope sGood) := ⟨rfl, rfl, rfl, by decide +kernel, rfl, by decide +kernel, by decide +kernel⟩
theorem refQ_get {L : List QE} {i : Nat} {x : V} (h : (refQ L)[i]? = some x) : ∃ p, L[i]? = some p ∧ x = V.ref p.1 := by
  unfold refQ at h
  rw [List.getElem?_map] at h
  obtain ⟨p, e, rfl⟩ := Option.map_eq_some_iff.mp h
  exact ⟨p, e, rfl⟩
theorem refQ_len (L : List QE) : (refQ L).length = L.length := List.length_map ..
section
variable {P : Program} {w : World} {K : PySem.W.Frag} {mg : Str → Option Value} {base : Heap} {C : Addr}
theorem ord_64 {S : SB} (ok : SOk S) : ∀ i ∈ S.ord, i < 64 := fun i mi => by have := ok.lt i mi; have := names_len ok; omega
theorem kept_len {H : Hp} {b : Addr} {Y : BP} {S : SB} (I : BoardIn P w C H b Y S) (ok : SOk S) (few : rulesUp S.views ≤ 6000) {m : Nat} {q : Addr} {L : List QE} (h : (m, q, L) ∈ Y.kq) : L.length ≤ 6000 := by
  have z := congrArg List.length (I.cQ _ h)
  rw [List.length_map, sure_each, List.length_map, rules_len ok] at z
  have z : L.length = rulesUp S.views := z
  omega
theorem ok_good {f fB fE : Addr} {fd fdB fdE : FuncData} (F : Fun K "good_rules" "good_rules" sGood f fd) (T : Txt K mg C) (B' : Def P w K mg base 1 "bits_of" ["numbers"] (spBits K) fB fdB) (N : Def P w K mg base 8 "sure_by_each" ["board", "moves"] (spEach P w C) fE fdE) :
    FnOk P w K mg base CX0 9 f fd ["board", "moves"] (spGood P w C) := by
  refine F.ok scGood (fun vs H Q E h => ?_) (fun cdv A outer s H vs Q E hr h => ?_)
  · obtain ⟨b, Y, S, m, rfl, _⟩ := h
    rfl
  · refine ⟨_, pss_cons (ps_set (i := 2) scGood.nd rfl (Or.inr rfl) (pe_call B'.ok (hr.mono (by decide)) rfl B'.g B'.kp B'.b .nil pass0 (pa_cons (pe_fld (pv 0) rfl) pa_nil)))
      (pss_one (ps_ret (pe_lc (own := [("rule", 3), ("sure", 4)]) (g := gTup K 2 (gCons (gName 3) (gCons (gName 4) gNil))) rfl scGood.nd (pi_list (pe_call N.ok hr rfl N.g N.kp N.b .nil pass0 (pa_cons (pv 0) (pa_cons (pv 1) pa_nil)))) (blkOk_by (N := nGood) (sc := defScope sGood) (by decide +kernel))
        (fun _ _ _ _ _ => pg_tup rfl (pgs_cons (pg_name (i := 3) scGood.nd rfl (Or.inl rfl)) (pgs_cons (pg_name (i := 4) scGood.nd rfl (Or.inl rfl)) pgs_nil)))
        (fun _ _ _ _ _ => pts_one (pt_cmpR op_eq (pe_op op_andN (pv 4) (pv 2)) (pv 2) (nomark _)))
        (fun _ _ _ _ _ => pv 3)))), ?_⟩
    obtain ⟨b, Y, S, m, rfl, I, ok, hm, few, k⟩ := h
    have big : (100000 : Nat) < sizeLine := by decide
    refine ⟨_, rfl, b, C, Y.dx, Y.fs, _, rfl, I.obj, T.cl, T.nM, I.fM, Y.aM, S.ord, rfl, .inr ⟨Y.kvs, I.hM, I.eM⟩, ord_64 ok, ?_⟩
    refine ⟨_, rfl, _, rfl, b, Y, S, m, rfl, I, ok, hm, few, fun H1 Y1 q0 L kn mq => ?_⟩
    have I1 := kn.in_
    have hq := I1.tQ _ mq
    have hq : H1 q0 = some (.lst (refQ L)) := hq
    have rq : ∀ y ∈ L, H1 y.1 = some (.tup [.ref y.2.1, .int (y.2.2.2 : Nat)]) ∧ H1 y.2.1 = some (.tup (vN y.2.2.1)) := I1.rQ _ mq
    have ll := kept_len I1 ok few mq
    refine ⟨q0, rfl, ⟨_, SqL.of hq⟩, fun D hD => ?_⟩
    refine lc_list (K := K) (a := q0) (xs := refQ L) (fun j H' => H' = upd H1 D (.lst (refH (toLT (goodQ S (L.take j)))))) rfl (fun j H' _ z => by rw [z]; exact (same_new hD).seq (SqL.of hq)) ?_ ?_
    · rintro j x H2 hj rfl
      obtain ⟨y, yj, rfl⟩ := refQ_get hj
      have ym := List.mem_of_getElem? yj
      have sN := same_new (o := .lst (refH (toLT (goodQ S (L.take j))))) hD
      have up := take_filter (fun y : QE => decide (y.2.2.2 &&& bitsOf S.ord = bitsOf S.ord)) yj
      have gl : (goodQ S (L.take j)).length ≤ 6000 := Nat.le_trans (List.length_filter_le _ _) (by rw [List.length_take]; omega)
      refine ⟨y.1, _, rfl, SqT.of (sN _ _ (rq y ym).1), rfl, _, _, rfl, _, _, rfl, rfl, rfl, ?_⟩
      refine ⟨_, rfl, _, rfl, y.2.2.2, bitsOf S.ord, rfl, rfl, _, rfl, rfl, _, rfl, ?_⟩
      rw [dec_int, show (((y.2.2.2 &&& bitsOf S.ord : Nat) : Int) == ((bitsOf S.ord : Nat) : Int)) = decide (y.2.2.2 &&& bitsOf S.ord = bitsOf S.ord) by rw [Bool.eq_iff_iff, beq_iff_eq, decide_eq_true_eq]; omega]
      cases c : decide (y.2.2.2 &&& bitsOf S.ord = bitsOf S.ord) with
      | true =>
        rw [c, if_pos rfl] at up
        refine iteT ⟨_, rfl, _, upd_same, by rw [refH_len]; unfold toLT; rw [List.length_map]; omega, ?_⟩
        rw [upd_upd]
        have e : refH (toLT (goodQ S (L.take (j + 1)))) = refH (toLT (goodQ S (L.take j))) ++ [V.ref y.2.1] := by
          show refH (toLT (List.filter _ _)) = _
          rw [up]
          unfold toLT refH goodQ
          rw [List.map_append, List.map_append]
          rfl
        rw [e]
      | false =>
        rw [c, if_neg Bool.false_ne_true, List.append_nil] at up
        refine iteF ?_
        show _ = upd H1 D (.lst (refH (toLT (List.filter _ _))))
        rw [up]
        rfl
    · rintro H2 rfl
      rw [refQ_len, List.take_length]
      have nD : D ∉ Y1.own b := I1.free hD
      refine k _ Y1 D (toLT (goodQ S L)) (kn.same (same_new hD)) (kn.fresh I hD) nD upd_same (fun p mp => ?_) (good_q ok (I1.cQ _ mq))
      obtain ⟨y, my, rfl⟩ := List.mem_map.mp mp
      exact same_new hD _ _ (rq y (List.mem_filter.mp my).1).2
end
end RF

/-! ## RFBest -/
namespace RF
open PySem PySem.Spec PyProof.Rows L2
/-! ### the best rule -/
section
variable {S : SB}
theorem views_pos (ok : SOk S) : 0 < S.views.length := by
  have h0 := names_pos ok
  have hs := ((rows_mem _ _ _).mp (ring_rows ok h0)).2
  have ex : ∃ p, p < (S.ring 0).length ∧ 0 < (S.ring 0).getD p 0 := by
    have gen : ∀ l : List Nat, 0 < l.sum → ∃ p, p < l.length ∧ 0 < l.getD p 0 := fun l => by
      induction l with
      | nil => intro h; cases h
      | cons x l ih =>
        intro h
        by_cases c : 0 < x
        · exact ⟨0, Nat.succ_pos _, c⟩
        · rw [List.sum_cons] at h
          obtain ⟨p, hp, hx⟩ := ih (by omega)
          exact ⟨p + 1, by rw [List.length_cons]; omega, hx⟩
    exact gen _ (by rw [hs]; have := ok.k; omega)
  obtain ⟨p, hp, hx⟩ := ex
  have m := mine_has ok h0 (view_in (e := S.e) hp hx)
  rw [vlen_eq ok.facts]
  exact List.length_pos_of_mem m
def bestTurn (marks : List Nat) (o : List Nat × Nat) (p : List Nat × List Nat) : List Nat × Nat :=
  let c := (marks.filter fun i => p.2.contains i).length
  if o.1 = [] ∨ o.2 < c then (p.1, c) else o
def bestUp (S : SB) (rs : List (List Nat)) : List Nat × Nat := (rs.map fun r => (r, suresOf S S.a r)).foldl (bestTurn S.marks) ([], 0)
def bestOf (S : SB) : List Nat × Nat := bestUp S (rulesOf S)
def gainOf (S : SB) (r : List Nat) : Nat := (S.marks.filter fun i => (suresOf S S.a r).contains i).length
theorem best_up (S : SB) {rs : List (List Nat)} {j : Nat} {r : List Nat} (h : rs[j]? = some r) : bestUp S (rs.take (j + 1)) = if (bestUp S (rs.take j)).1 = [] ∨ (bestUp S (rs.take j)).2 < gainOf S r then (r, gainOf S r) else bestUp S (rs.take j) := by
  unfold bestUp
  rw [List.take_succ_eq_append_getElem (List.getElem?_eq_some_iff.mp h).1, (List.getElem?_eq_some_iff.mp h).2, List.map_append, List.foldl_append]
  rfl
theorem gain_bits (ok : SOk S) (r : List Nat) : numsOf (bitsOf (suresOf S S.a r) &&& bitsOf S.ord) = S.marks.filter fun i => (suresOf S S.a r).contains i := by
  have lt : bitsOf (suresOf S S.a r) &&& bitsOf S.ord < 2 ^ S.names.length := Nat.lt_of_le_of_lt Nat.and_le_right (bitsOf_lt ok.lt)
  rw [numsOf_eq lt]
  unfold SB.marks risen
  rw [List.filter_filter]
  refine List.filter_congr fun i _ => ?_
  rw [Nat.testBit_and, bitsOf_test, bitsOf_test, Bool.eq_iff_iff]
  simp
end
/-! ### best_rule -/
abbrev sBest : Stmt := top 39
def spBest (P : Program) (w : World) (C : Addr) : Sp := fun vs H Q _ => ∃ (b : Addr) (Y : BP) (S : SB), vs = [.ref b] ∧ BoardIn P w C H b Y S ∧ SOk S ∧ rulesUp S.views ≤ 6000 ∧
  ∀ (H' : Hp) (Y' : BP) (q r : Addr), Knew P w C H b Y S H' Y' → H' q = some (.tup [.int ((bestOf S).2 : Nat), .ref r]) → H' r = some (.tup (vN (bestOf S).1)) → Q (.ref q) H'
abbrev nBest : List Str := ["board", "wanted", "most", "best", "rule", "sure", "gathered"]
theorem scBest : FnScope nBest ["board"] (defScope sBest) := ⟨rfl, rfl, rfl, by decide +kernel, rfl, by decide +kernel, by decide +kernel⟩
section
variable {P : Program} {w : World} {K : PySem.W.Frag} {mg : Str → Option Value} {base : Heap} {C : Addr}
theorem ok_best {f fB fN fE : Addr} {fd fdB fdN fdE : FuncData} (F : Fun K "best_rule" "best_rule" sBest f fd) (O : Own mg) (T : Txt K mg C) (B' : Def P w K mg base 1 "bits_of" ["numbers"] (spBits K) fB fdB) (N' : Def P w K mg base 1 "numbers_of" ["bits"] spNums fN fdN) (N : Def P w K mg base 8 "sure_by_each" ["board", "moves"] (spEach P w C) fE fdE) :
    FnOk P w K mg base CX0 9 f fd ["board"] (spBest P w C) := by
  refine F.ok scBest (fun vs H Q E h => ?_) (fun cdv A outer s H vs Q E hr h => ?_)
  · obtain ⟨b, Y, S, rfl, _⟩ := h
    rfl
  · refine ⟨_, pss_cons (ps_set (i := 1) scBest.nd rfl (Or.inl rfl) (pe_call B'.ok (hr.mono (by decide)) rfl B'.g B'.kp B'.b .nil pass0 (pa_cons (pe_fld (pv 0) rfl) pa_nil)))
      (pss_cons (ps_set (i := 2) scBest.nd rfl (Or.inl rfl) (pe_un un_neg pe_int))
      (pss_cons (ps_set (i := 3) scBest.nd rfl (Or.inl rfl) (pe_tup pa_nil))
      (pss_cons (ps_for PassesOwn.never rfl (pi_list (pe_call N.ok hr rfl N.g N.kp N.b .nil pass0 (pa_cons (pv 0) (pa_cons (pe_fld (pv 0) rfl) pa_nil)))) (pg_tup rfl (pgs_cons (pg_name (i := 4) scBest.nd rfl (Or.inl rfl)) (pgs_cons (pg_name (i := 5) scBest.nd rfl (Or.inl rfl)) pgs_nil)))
        (pss_cons (ps_set (i := 6) scBest.nd rfl (Or.inl rfl) (pe_callB call_len_seq (by rfl) O.len PySem.boot_len (pa_cons (pe_call N'.ok (hr.mono (by decide)) rfl N'.g N'.kp N'.b .nil pass0 (pa_cons (pe_op op_andN (pv 5) (pv 1)) pa_nil)) pa_nil)))
        (pss_one (ps_if (pt_cmpR op_gt (pv 6) (pv 2) (nomark _)) (pss_cons (ps_set (i := 2) scBest.nd rfl (Or.inl rfl) (pv 6)) (pss_one (ps_set (i := 3) scBest.nd rfl (Or.inl rfl) (pv 4)))) pss_nil))))
      (pss_one (ps_ret (pe_tup (pa_cons (pv 2) (pa_cons (pv 3) pa_nil)))))))), ?_⟩
    obtain ⟨b, Y, S, rfl, I, ok, few, k⟩ := h
    have big : (100000 : Nat) < sizeLine := by decide
    refine ⟨_, rfl, b, C, Y.dx, Y.fs, _, rfl, I.obj, T.cl, T.nM, I.fM, Y.aM, S.ord, rfl, .inr ⟨Y.kvs, I.hM, I.eM⟩, ord_64 ok, ?_⟩
    refine ⟨1, rfl, by show 0 ≤ sizeLine; decide, fun e0 he0 => ?_⟩
    have s0 := same_new (o := .tup []) he0
    have I0 := I.same s0
    refine ⟨_, rfl, _, rfl, b, C, Y.dx, Y.fs, _, rfl, I0.obj, T.cl, T.nA, I0.fa, b, Y, S, S.a, rfl, I0, ok, ok.a, few, fun H1 Y1 q0 L kn mq => ?_⟩
    have I1 := kn.in_
    have hq : H1 q0 = some (.lst (refQ L)) := I1.tQ _ mq
    have rq : ∀ y ∈ L, H1 y.1 = some (.tup [.ref y.2.1, .int (y.2.2.2 : Nat)]) ∧ H1 y.2.1 = some (.tup (vN y.2.2.1)) := I1.rQ _ mq
    have cq : (L.map fun y => y.2.2) = (rulesOf S).map fun r => (r, bitsOf (suresOf S S.a r)) := by rw [← sure_each]; exact I1.cQ _ mq
    have he1 : H1 e0 = some (.tup []) := kn.tup I0 upd_same
    have kn0 : Knew P w C H b Y S H1 Y1 := ⟨kn.in_, kn.as_, fun x mx => by
      rcases kn.sub x mx with z | z
      · exact .inl z
      · exact .inr (s0.free z), fun x o e n1 n2 => kn.keep x o (s0 _ _ e) n1 n2⟩
    have llen : L.length = (rulesOf S).length := by
      have z := congrArg List.length cq
      rw [List.length_map, List.length_map] at z
      exact z
    refine ⟨q0, rfl, ⟨_, SqL.of hq⟩, for_list (K := K) (a := q0) (xs := refQ L) (fun j σ H' => ∃ (mo : Int) (r : Addr) (br : List Nat) (u4 u5 u6 : Option V), σ = [some (.ref b), some (.int (bitsOf S.ord : Nat)), some (.int mo), some (.ref r), u4, u5, u6] ∧ Same H1 H' ∧ H' r = some (.tup (vN br)) ∧
        ((j = 0 ∧ mo = -1) ∨ (0 < j ∧ mo = ((bestUp S ((rulesOf S).take j)).2 : Nat) ∧ br = (bestUp S ((rulesOf S).take j)).1 ∧ br ≠ [])))
      ⟨-1, e0, [], none, none, none, rfl, Same.refl _, he1, .inl ⟨rfl, rfl⟩⟩ (fun j σ H' _ ⟨_, _, _, _, _, _, _, s2, _⟩ => SqL.of (s2 _ _ hq)) ?_ ?_⟩
    · rintro j x σ H2 hj ⟨mo, r, br, u4, u5, u6, rfl, s2, hr2, inv⟩
      obtain ⟨y, yj, rfl⟩ := refQ_get hj
      have ym := List.mem_of_getElem? yj
      have rg : ((rulesOf S).map fun r => (r, bitsOf (suresOf S S.a r)))[j]? = some y.2.2 := by rw [← cq, List.getElem?_map, yj]; rfl
      rw [List.getElem?_map] at rg
      obtain ⟨ru, eru, ey⟩ := Option.map_eq_some_iff.mp rg
      have y1 : y.2.2.1 = ru := by rw [← ey]
      have y2 : y.2.2.2 = bitsOf (suresOf S S.a ru) := by rw [← ey]
      have gb := gain_bits ok ru
      have run : ru ≠ [] := fun z => by
        have z1 := (rule_of ok (List.mem_of_getElem? eru)).1
        rw [z] at z1
        have := views_pos ok
        rw [List.length_nil] at z1
        omega
      have lt : y.2.2.2 &&& bitsOf S.ord < 2 ^ 64 := Nat.lt_of_le_of_lt Nat.and_le_right (bitsOf_lt (ord_64 ok))
      refine ⟨y.1, _, rfl, SqT.of (s2 _ _ (rq y ym).1), rfl, _, _, rfl, _, _, rfl, rfl, ?_⟩
      refine ⟨_, rfl, _, rfl, y.2.2.2, bitsOf S.ord, rfl, rfl, _, rfl, lt, fun qn hqn => ?_⟩
      have sn := same_new (o := .lst (vN (numsOf (y.2.2.2 &&& bitsOf S.ord)))) hqn
      refine ⟨qn, _, rfl, .inl (SqL.of upd_same), ?_⟩
      have gl : (vN (numsOf (y.2.2.2 &&& bitsOf S.ord))).length = gainOf S ru := by rw [vN_len, y2, gb]; rfl
      rw [gl]
      refine ⟨_, rfl, _, rfl, _, _, rfl, rfl, _, rfl, ?_⟩
      have bu := best_up S eru
      have hy : upd H2 qn (.lst (vN (numsOf (y.2.2.2 &&& bitsOf S.ord)))) y.2.1 = some (.tup (vN ru)) := by rw [← y1]; exact sn _ _ (s2 _ _ (rq y ym).2)
      rcases inv with ⟨rfl, rfl⟩ | ⟨j0, rfl, rfl, brn⟩
      · refine ite2 (fun _ => ?_) (fun z => absurd (decide_eq_true (by omega)) z)
        refine ⟨_, rfl, _, rfl, _, y.2.1, ru, _, _, _, rfl, s2.trans sn, hy, .inr ⟨Nat.succ_pos _, ?_, ?_, run⟩⟩
        · rw [bu, if_pos (.inl rfl)]
        · rw [bu, if_pos (.inl rfl)]
      · refine ite2 (fun c => ?_) (fun c => ?_)
        · have c := of_decide_eq_true c
          refine ⟨_, rfl, _, rfl, _, y.2.1, ru, _, _, _, rfl, s2.trans sn, hy, .inr ⟨Nat.succ_pos _, ?_, ?_, run⟩⟩
          · rw [bu, if_pos (.inr (by omega))]
          · rw [bu, if_pos (.inr (by omega))]
        · have c : ¬ (((bestUp S ((rulesOf S).take j)).2 : Int) < (gainOf S ru : Int)) := fun z => c (decide_eq_true z)
          have nb : ¬ ((bestUp S ((rulesOf S).take j)).1 = [] ∨ (bestUp S ((rulesOf S).take j)).2 < gainOf S ru) := fun z => z.elim brn (fun z => c (by omega))
          refine ⟨_, r, _, _, _, _, rfl, s2.trans sn, sn _ _ hr2, .inr ⟨Nat.succ_pos _, ?_, ?_, brn⟩⟩
          · rw [bu, if_neg nb]
          · rw [bu, if_neg nb]
    · rintro σ H2 ⟨mo, r, br, u4, u5, u6, rfl, s2, hr2, inv⟩
      rw [refQ_len, llen, List.take_length] at inv
      refine ⟨_, rfl, _, rfl, by show 2 ≤ sizeLine; decide, fun q hq' => ?_⟩
      have sq := same_new (o := .tup [V.int mo, V.ref r]) hq'
      rcases inv with ⟨z, _⟩ | ⟨_, rfl, rfl, _⟩
      · have z1 := rules_len ok
        have z2 := up_ge S.views 1
        have z2 : 1 ≤ rulesUp S.views := z2
        omega
      · exact k _ Y1 q r (kn0.same (s2.trans sq)) upd_same (sq _ _ hr2)
end
end RF

/-! ## RFWhyM -/
namespace RF
/-! ### subsets of so many, one behind another -/
def lastLt (f : List Nat) (x : Nat) : Bool := match f.getLast? with
  | none => true
  | some y => decide (y < x)
def moreF (ns f : List Nat) : List (List Nat) := (ns.filter (lastLt f)).map fun x => f ++ [x]
def oneMoreF (fs : List (List Nat)) (ns : List Nat) : List (List Nat) := fs.flatMap (moreF ns)
theorem choose_mem : ∀ (k : Nat) (l s : List Nat), s ∈ Km537.choose k l → s.length = k ∧ ∀ y ∈ s, y ∈ l
  | 0, l, s, h => by
    have : s = [] := by
      cases l <;> exact List.mem_singleton.mp h
    subst this
    exact ⟨rfl, fun y m => by cases m⟩
  | k + 1, [], s, h => by cases h
  | k + 1, x :: r, s, h => by
    rcases List.mem_append.mp (show s ∈ (Km537.choose k r).map (fun s => x :: s) ++ Km537.choose (k + 1) r from h) with h | h
    · obtain ⟨t, mt, rfl⟩ := List.mem_map.mp h
      obtain ⟨h1, h2⟩ := choose_mem k r t mt
      refine ⟨by rw [List.length_cons, h1], fun y my => ?_⟩
      rcases List.mem_cons.mp my with rfl | my
      · exact List.mem_cons_self
      · exact List.mem_cons_of_mem _ (h2 y my)
    · obtain ⟨h1, h2⟩ := choose_mem (k + 1) r s h
      exact ⟨h1, fun y my => List.mem_cons_of_mem _ (h2 y my)⟩
theorem choose_zero (l : List Nat) : Km537.choose 0 l = [[]] := by cases l <;> rfl
theorem choose_cons (k : Nat) (x : Nat) (r : List Nat) : Km537.choose (k + 1) (x :: r) = (Km537.choose k r).map (fun s => x :: s) ++ Km537.choose (k + 1) r := rfl
theorem last_cons (x : Nat) (s : List Nat) (y : Nat) (h : ∀ z ∈ s, x < z) (hy : x < y) : lastLt (x :: s) y = lastLt s y := by
  unfold lastLt
  rw [List.getLast?_cons]
  cases e : s.getLast? with
  | none => exact decide_eq_true hy
  | some z => rfl
theorem last_self (x : Nat) (s : List Nat) (h : ∀ z ∈ s, x < z) : lastLt (x :: s) x = false := by
  unfold lastLt
  rw [List.getLast?_cons]
  cases e : s.getLast? with
  | none => exact decide_eq_false (Nat.lt_irrefl x)
  | some z =>
    have := h z (List.mem_of_getLast? e)
    exact decide_eq_false (by show ¬ z < x; omega)
theorem last_out (x : Nat) {s : List Nat} (h : ∀ z ∈ s, x < z) (n : s ≠ []) : lastLt s x = false := by
  unfold lastLt
  cases e : s.getLast? with
  | none => exact absurd (List.getLast?_eq_none_iff.mp e) n
  | some z =>
    have := h z (List.mem_of_getLast? e)
    exact decide_eq_false (by omega)
theorem more_out {x : Nat} {r f : List Nat} (h : lastLt f x = false) : moreF (x :: r) f = moreF r f := by
  unfold moreF
  rw [List.filter_cons, h, if_neg Bool.false_ne_true]
theorem more_in {x : Nat} {r s : List Nat} (hr : ∀ y ∈ r, x < y) (hs : ∀ z ∈ s, x < z) : moreF (x :: r) (x :: s) = (moreF r s).map fun t => x :: t := by
  rw [more_out (last_self x s hs)]
  unfold moreF
  rw [List.map_map]
  have e : r.filter (lastLt (x :: s)) = r.filter (lastLt s) := List.filter_congr fun y my => last_cons x s y hs (hr y my)
  rw [e]
  rfl
theorem flat_cong {α β : Type} {f g : α → List β} : ∀ {l : List α}, (∀ x ∈ l, f x = g x) → l.flatMap f = l.flatMap g
  | [], _ => rfl
  | x :: l, h => by rw [List.flatMap_cons, List.flatMap_cons, h x List.mem_cons_self, flat_cong fun y m => h y (List.mem_cons_of_mem _ m)]
theorem choose_up : ∀ (l : List Nat), l.Pairwise (· < ·) → ∀ k, Km537.choose (k + 1) l = oneMoreF (Km537.choose k l) l
  | [], _, k => by
    show [] = oneMoreF _ []
    unfold oneMoreF
    have : ∀ fs : List (List Nat), fs.flatMap (moreF []) = [] := fun fs => by
      induction fs with
      | nil => rfl
      | cons f fs ih => rw [List.flatMap_cons, ih]; rfl
    exact (this _).symm
  | x :: r, h, k => by
    obtain ⟨h1, h2⟩ := List.pairwise_cons.mp h
    have ih := choose_up r h2
    cases k with
    | zero =>
      have i0 := ih 0
      rw [choose_zero] at i0
      rw [choose_cons, choose_zero, choose_zero, i0]
      unfold oneMoreF
      rw [List.flatMap_cons, List.flatMap_cons, List.flatMap_nil, List.flatMap_nil, List.append_nil, List.append_nil]
      rfl
    | succ k =>
      rw [choose_cons (k + 1), choose_cons k]
      unfold oneMoreF
      rw [List.flatMap_append, List.flatMap_map]
      congr 1
      · rw [ih k]
        unfold oneMoreF
        rw [List.map_flatMap]
        exact flat_cong fun s ms => (more_in h1 fun z mz => h1 z ((choose_mem k r s ms).2 z mz)).symm
      · rw [ih (k + 1)]
        unfold oneMoreF
        refine flat_cong fun s ms => (more_out (last_out x (fun z mz => h1 z ((choose_mem (k + 1) r s ms).2 z mz)) fun z => ?_)).symm
        have := (choose_mem (k + 1) r s ms).1
        rw [z] at this
        cases this
theorem choose_len : ∀ (k : Nat) (l : List Nat), (Km537.choose k l).length ≤ 2 ^ l.length
  | 0, l => by rw [choose_zero]; exact Nat.one_le_two_pow
  | k + 1, [] => Nat.zero_le _
  | k + 1, x :: r => by
    rw [choose_cons, List.length_append, List.length_map, List.length_cons, Nat.pow_succ]
    have := choose_len k r
    have := choose_len (k + 1) r
    omega
theorem choose_over : ∀ (l : List Nat) (k : Nat), l.length < k → Km537.choose k l = []
  | [], k + 1, _ => rfl
  | x :: r, 0, h => by cases h
  | x :: r, k + 1, h => by
    rw [List.length_cons] at h
    rw [choose_cons, choose_over r k (by omega), choose_over r (k + 1) (by omega)]
    rfl
theorem choose_all : ∀ l : List Nat, Km537.choose l.length l = [l]
  | [] => rfl
  | x :: r => by
    rw [List.length_cons, choose_cons, choose_all r, choose_over r (r.length + 1) (Nat.lt_succ_self _)]
    rfl
/-! ### the fewest that no rule gathers all of -/
def hopeless (all : List (List Nat × List Nat)) (s : List Nat) : Bool := !(all.any fun p => Km537.goodFor s p.2)
theorem core_some {all : List (List Nat × List Nat)} {marks : List Nat} {k : Nat} {s : List Nat} (hk : k ≤ marks.length) (no : ∀ j, j < k → (Km537.choose j marks).find? (hopeless all) = none) (h : (Km537.choose k marks).find? (hopeless all) = some s) : Km537.core all marks = some s := by
  show ((List.range (marks.length + 1)).flatMap fun k => Km537.choose k marks).find? (hopeless all) = some s
  rw [List.find?_flatMap, List.findSome?_eq_some_iff]
  refine ⟨List.range k, k, (List.range (marks.length - k)).map fun x => k + (x + 1), ?_, h, fun j mj => no j (List.mem_range.mp mj)⟩
  have e : marks.length + 1 = k + ((marks.length - k) + 1) := by omega
  rw [e, List.range_add, List.range_succ_eq_map, List.map_cons, List.map_map]
  rfl
theorem core_none {all : List (List Nat × List Nat)} {marks : List Nat} {p : List Nat × List Nat} (hp : p ∈ all) (g : Km537.goodFor marks p.2 = true) : Km537.core all marks = none := by
  show ((List.range (marks.length + 1)).flatMap fun k => Km537.choose k marks).find? (hopeless all) = none
  rw [List.find?_eq_none]
  intro s ms
  obtain ⟨k, _, ms⟩ := List.mem_flatMap.mp ms
  have sub := (choose_mem k marks s ms).2
  have : (all.any fun p => Km537.goodFor s p.2) = true := by
    rw [List.any_eq_true]
    refine ⟨p, hp, ?_⟩
    unfold Km537.goodFor at g ⊢
    rw [List.all_eq_true] at g ⊢
    exact fun i mi => g i (sub i mi)
  unfold hopeless
  rw [this]
  exact Bool.false_ne_true
/-- told by bits -/
def hopeB (ss f : List Nat) : Bool := !(ss.any fun s => decide (s &&& bitsOf f = bitsOf f))
theorem hope_is {all : List (List Nat × List Nat)} {ss : List Nat} (h : ∀ s, s ∈ ss ↔ ∃ p ∈ all, s = bitsOf p.2) (f : List Nat) : hopeB ss f = hopeless all f := by
  unfold hopeB hopeless
  congr 1
  rw [Bool.eq_iff_iff, List.any_eq_true, List.any_eq_true]
  have one : ∀ s : List Nat, decide (bitsOf s &&& bitsOf f = bitsOf f) = Km537.goodFor f s := fun s => by
    unfold Km537.goodFor
    rw [Bool.eq_iff_iff, decide_eq_true_eq, bits_within, List.all_eq_true]
    constructor
    · exact fun h i mi => by rw [List.contains_iff_mem]; exact h i mi
    · exact fun h i mi => List.contains_iff_mem.mp (h i mi)
  constructor
  · rintro ⟨s, ms, hs⟩
    obtain ⟨p, mp, rfl⟩ := (h s).mp ms
    rw [one] at hs
    exact ⟨p, mp, hs⟩
  · rintro ⟨p, mp, hs⟩
    exact ⟨bitsOf p.2, (h _).mpr ⟨p, mp, rfl⟩, by rw [one]; exact hs⟩
end RF

/-! ## RFWhy -/
namespace RF
open PySem PySem.Spec PyProof.Rows L2
def rLenS (K : PySem.W.Frag) : List V → Hp → VK → Prop := fun xs H Q => ∃ p ys, xs = [.ref p] ∧ (SqL K H p ys ∨ SqT K H p ys) ∧ Q (.int ys.length) H
theorem call_lenS {X : Cx} : CallR X (.builtin "len") (rLenS X.K) := call_len_seq
def ListsN (H : Hp) (L : LT) : Prop := ∀ p ∈ L, H p.1 = some (.lst (vN p.2))
theorem ListsN.same {H H' : Hp} {L : LT} (h : ListsN H L) (e : Same H H') : ListsN H' L := fun p m => e _ _ (h p m)
theorem ListsN.snoc {H : Hp} {M : LT} {a : Addr} {ns : List Nat} (h : ListsN H M) (e : H a = some (.lst (vN ns))) : ListsN H (M ++ [(a, ns)]) := fun p m => by
  rcases List.mem_append.mp m with m | m
  · exact h p m
  · rw [List.mem_singleton.mp m]; exact e
theorem ListsN.upd {H : Hp} {L : LT} {D : Addr} {o : HO} (h : ListsN H L) (n : D ∉ L.map (·.1)) : ListsN (upd H D o) L := fun p m => by
  have z : p.1 ≠ D := fun z => n (by rw [← z]; exact List.mem_map_of_mem m)
  rw [upd_ne z]
  exact h p m
theorem not_in_snoc {D a : Addr} {M : LT} {ns : List Nat} (h : D ∉ M.map (·.1)) (n : a ≠ D) : D ∉ (M ++ [(a, ns)]).map (·.1) := fun m => by
  rw [List.map_append] at m
  rcases List.mem_append.mp m with m | m
  · exact h m
  · exact n (List.mem_singleton.mp m).symm
/-! ### with_one_more -/
abbrev sMoreF : Stmt := top 40
def spMoreF : Sp := fun vs H Q _ => ∃ (a n : Addr) (F : LT) (ns : List Nat), vs = [.ref a, .ref n] ∧ H a = some (.lst (refH F)) ∧ ListsN H F ∧ H n = some (.lst (vN ns)) ∧ (oneMoreF (F.map (·.2)) ns).length ≤ 10000 ∧ (∀ f ∈ F, f.2.length ≤ 100) ∧
  ∀ (H' : Hp) (q : Addr) (G : LT), Same H H' → H q = none → H' q = some (.lst (refH G)) → ListsN H' G → G.map (·.2) = oneMoreF (F.map (·.2)) ns → Q (.ref q) H'
abbrev nMoreF : List Str := ["fews", "numbers", "longer", "few", "number"]
theorem scMoreF : FnScope nMoreF ["fews", "numbers"] (defScope sMoreF) := ⟨rfl, rfl, rfl, by decide +kernel, rfl, by decide +kernel, by decide +kernel⟩
theorem last_at {f : List Nat} (h : f ≠ []) : ∃ y, f.getLast? = some y ∧ atI (vN f) (-1) = some (V.int (y : Nat)) := by
  obtain ⟨y, e⟩ : ∃ y, f.getLast? = some y := by
    cases e : f.getLast? with
    | none => exact absurd (List.getLast?_eq_none_iff.mp e) h
    | some y => exact ⟨y, rfl⟩
  obtain ⟨g, rfl⟩ := List.getLast?_eq_some_iff.mp e
  refine ⟨y, e, ?_⟩
  unfold vN
  rw [List.map_append]
  exact atI_last _ _
section
variable {P : Program} {w : World} {K : PySem.W.Frag} {mg : Str → Option Value} {base : Heap}
theorem ok_moreF {f : Addr} {fd : FuncData} (F' : Fun K "with_one_more" "with_one_more" sMoreF f fd) (O : Own mg) : FnOk P w K mg base CX0 1 f fd ["fews", "numbers"] spMoreF := by
  refine F'.ok scMoreF (fun vs H Q E h => ?_) (fun cdv A outer s H vs Q E hr h => ?_)
  · obtain ⟨a, n, F, ns, rfl, _⟩ := h
    rfl
  · refine ⟨_, pss_cons (ps_set (i := 2) scMoreF.nd rfl (Or.inl rfl) (pe_lst pa_nil))
      (pss_cons (ps_for PassesOwn.never rfl (pi_list (pv 0)) (pg_name (i := 3) scMoreF.nd rfl (Or.inr rfl))
        (pss_one (ps_expr (pe_bm PySem.F.plainAttrs_list PySem.F.slot_list_extend PySem.F.type_list_extend mt_extend (pv 2) (pa_cons
          (pe_lc (own := [("number", 4)]) (g := gName 4) rfl scMoreF.nd (pi_list (pv 1)) (blkOk_by (N := nMoreF) (sc := defScope sMoreF) (by decide +kernel))
            (fun _ _ _ _ _ => pg_name (i := 4) scMoreF.nd rfl (Or.inl rfl))
            (fun _ _ _ _ _ => pts_one (PW.pt (pw_or (pt_cmpR op_eq (pe_callB (r := rLenS K) call_lenS (by rfl) O.len PySem.boot_len (pa_cons (pv 3) pa_nil)) pe_int (nomark _)) (pw_or1 (pt_cmpR op_gt (pv 4) (pe_ix (r := rIxL K) ix_list (pv 3) (pe_un un_neg pe_int) (fun _ _ => rfl)) (nomark _))))))
            (fun _ _ _ _ _ => pe_op op_cat (pv 3) (pe_lst (pa_cons (pv 4) pa_nil)))) pa_nil)))))
      (pss_one (ps_ret (pv 2)))), ?_⟩
    obtain ⟨a, n, F, ns, rfl, ha, lF, hn, room, short, k⟩ := h
    have big : (100000 : Nat) < sizeLine := by decide
    refine ⟨Nat.zero_le _, fun D hD => ?_⟩
    have sD := same_new (o := .lst []) hD
    refine ⟨_, rfl, a, rfl, ⟨_, SqL.of (sD _ _ ha)⟩, for_list (K := K) (a := a) (xs := refH F) (fun i σ H' => ∃ (G : LT) (u : Option V), σ = [some (.ref a), some (.ref n), some (.ref D), u, none] ∧ Same H H' ∧ H' D = some (.lst (refH G)) ∧ ListsN H' G ∧ D ∉ G.map (·.1) ∧ G.map (·.2) = oneMoreF ((F.map (·.2)).take i) ns)
      ⟨[], none, rfl, sD, upd_same, fun p m => absurd m (by simp), by simp, rfl⟩ (fun i σ H' _ ⟨_, _, _, s1, _⟩ => SqL.of (s1 _ _ ha)) ?_ ?_⟩
    · rintro i x σ H1 hi ⟨G, u, rfl, s1, hG, lG, nG, eG⟩
      obtain ⟨p, pi, rfl⟩ := refH_get hi
      have pm := List.mem_of_getElem? pi
      have p100 := short p pm
      have rm : G.length + (moreF ns p.2).length ≤ 10000 := by
        have z := flat_le (moreF ns) (F.map (·.2)) (i + 1)
        rw [flat_take (moreF ns) (F.map (·.2)) i (snds_at pi), List.length_append] at z
        rw [LT_len eG]
        unfold oneMoreF at room ⊢
        omega
      refine ⟨_, rfl, .inl ⟨rfl, _, SqL.of hG⟩, _, rfl, n, rfl, ⟨_, SqL.of (s1 _ _ hn)⟩, fun D2 hD2 => ?_⟩
      have DD : D ≠ D2 := fun z => by rw [← z, hG] at hD2; cases hD2
      refine lc_list (K := K) (a := n) (xs := vN ns) (fun j H' => Same H1 H' ∧ ∃ N : LT, H' D2 = some (.lst (refH N)) ∧ ListsN H' N ∧ D2 ∉ N.map (·.1) ∧ (∀ g ∈ N, H1 g.1 = none) ∧ N.map (·.2) = ((ns.take j).filter (lastLt p.2)).map fun x => p.2 ++ [x])
        ⟨same_new hD2, [], upd_same, fun p m => absurd m (by simp), by simp, fun g m => absurd m (by simp), rfl⟩ (fun j H' _ z => SqL.of (z.1 _ _ (s1 _ _ hn))) ?_ ?_
      · rintro j y H2 hj ⟨s2, N, hN, lN, nN, fN, eN⟩
        obtain ⟨x, ex, rfl⟩ := vN_get hj
        have up := take_filter (lastLt p.2) ex
        have hp2 : H2 p.1 = some (.lst (vN p.2)) := s2 _ _ (s1 _ _ (lF p pm))
        have nl : N.length ≤ (moreF ns p.2).length := by
          rw [LT_len eN, List.length_map]
          unfold moreF
          rw [List.length_map]
          exact (List.Sublist.filter _ (List.take_sublist _ _)).length_le
        have yes : lastLt p.2 x = true → tOp rCat (tVar 3) (tLst (tCons (tVar 4) tNil)) [some (V.ref a), some (V.ref n), some (V.ref D), some (V.ref p.1), some (V.int (x : Nat))] H2 (fun y H4 => ∃ acc, H4 D2 = some (.lst acc) ∧ acc.length < sizeLine ∧ (Same H1 (upd H4 D2 (.lst (acc ++ [y]))) ∧ ∃ N : LT, upd H4 D2 (.lst (acc ++ [y])) D2 = some (.lst (refH N)) ∧ ListsN (upd H4 D2 (.lst (acc ++ [y]))) N ∧ D2 ∉ N.map (·.1) ∧ (∀ g ∈ N, H1 g.1 = none) ∧ N.map (·.2) = ((ns.take (j + 1)).filter (lastLt p.2)).map fun x => p.2 ++ [x])) := fun c => by
          rw [c, if_pos rfl] at up
          refine ⟨_, rfl, _, rfl, by show 1 ≤ sizeLine; decide, fun g hg => ⟨p.1, g, _, _, rfl, rfl, same_new hg _ _ hp2, upd_same, ?_, fun r hr' => ?_⟩⟩
          · rw [vN_len]
            show p.2.length + 1 ≤ sizeLine
            omega
          · have sg := (same_new (o := .lst [V.int (x : Nat)]) hg).trans (same_new (o := .lst (vN p.2 ++ [V.int (x : Nat)])) hr')
            have rD : r ≠ D2 := fun z => by rw [z, same_new hg _ _ hN] at hr'; cases hr'
            have r1 : H1 r = none := s2.free ((same_new hg).free hr')
            have ev : vN p.2 ++ [V.int (x : Nat)] = vN (p.2 ++ [x]) := by unfold vN; rw [List.map_append]; rfl
            have nN2 := not_in_snoc (ns := p.2 ++ [x]) nN rD
            refine ⟨_, sg _ _ hN, by rw [refH_len]; omega, same_upd (s2.trans sg) hD2, N ++ [(r, p.2 ++ [x])], ?_, ?_, nN2, fun g' mg' => ?_, ?_⟩
            · rw [upd_same, refH_snoc N r (p.2 ++ [x])]
            · refine ((lN.same sg).snoc ?_).upd nN2
              rw [upd_same, ev]
            · rcases List.mem_append.mp mg' with mg' | mg'
              · exact fN g' mg'
              · rw [List.mem_singleton.mp mg']; exact r1
            · rw [List.map_append, eN, up, List.map_append]
              rfl
        refine ⟨rfl, _, rfl, p.1, _, rfl, .inl (SqL.of hp2), rfl, _, rfl, ?_⟩
        rw [dec_int, vN_len]
        by_cases c0 : p.2 = []
        · have c : lastLt p.2 x = true := by rw [c0]; rfl
          rw [show (((p.2.length : Nat) : Int) == 0) = true by rw [c0]; rfl]
          exact iteT (iteT (yes c))
        · have lp : 0 < p.2.length := List.length_pos_iff.mpr c0
          rw [show (((p.2.length : Nat) : Int) == 0) = false from beq_eq_false_iff_ne.mpr (by omega)]
          obtain ⟨z, ez, ea⟩ := last_at c0
          have cz : lastLt p.2 x = decide (z < x) := by unfold lastLt; rw [ez]
          refine iteF ⟨_, rfl, _, rfl, 1, rfl, p.1, _, _, _, rfl, rfl, SqL.of hp2, ea, _, _, rfl, rfl, _, rfl, ?_⟩
          by_cases c : z < x
          · rw [show decide ((z : Int) < (x : Int)) = true from decide_eq_true (by omega)]
            exact iteT (yes (by rw [cz]; exact decide_eq_true c))
          · rw [show decide ((z : Int) < (x : Int)) = false from decide_eq_false (by omega)]
            rw [cz, decide_eq_false c, if_neg Bool.false_ne_true, List.append_nil] at up
            refine iteF ⟨s2, N, hN, lN, nN, fN, ?_⟩
            rw [up]
            exact eN
      · rintro H2 ⟨s2, N, hN, lN, nN, fN, eN⟩
        rw [vN_len, List.take_length] at eN
        have eN2 : N.map (·.2) = moreF ns p.2 := eN
        have nl : N.length = (moreF ns p.2).length := LT_len eN2
        refine ⟨D, D2, _, _, rfl, rfl, s2 _ _ hG, hN, by rw [refH_len, refH_len]; omega, ?_⟩
        have nA : D ∉ (G ++ N).map (·.1) := fun m => by
          rw [List.map_append] at m
          rcases List.mem_append.mp m with m | m
          · exact nG m
          · obtain ⟨g, mg', e⟩ := List.mem_map.mp m
            have := fN g mg'
            rw [e, hG] at this
            cases this
        refine ⟨G ++ N, some (.ref p.1), rfl, same_upd (s1.trans s2) hD, ?_, ?_, nA, ?_⟩
        · rw [upd_same]
          unfold refH
          rw [List.map_append]
        · refine ListsN.upd (fun g m => ?_) nA
          rcases List.mem_append.mp m with m | m
          · exact s2 _ _ (lG g m)
          · exact lN g m
        · rw [List.map_append, eG, eN2]
          unfold oneMoreF
          rw [flat_take (moreF ns) (F.map (·.2)) i (snds_at pi)]
    · rintro σ H1 ⟨G, u, rfl, s1, hG, lG, nG, eG⟩
      rw [refH_len, List.take_of_length_le (by rw [List.length_map]; exact Nat.le_refl _)] at eG
      exact ⟨_, rfl, k H1 D G s1 hD hG lG eG⟩
end
end RF

/-! ## RFWhy2 -/
namespace RF
open PySem PySem.Spec PyProof.Rows L2
/-! ### first_hopeless -/
abbrev sFirst : Stmt := top 41
def spFirst : Sp := fun vs H Q _ => ∃ (a s : Addr) (F : LT) (ss : List Nat), vs = [.ref a, .ref s] ∧ H a = some (.lst (refH F)) ∧ ListsN H F ∧ H s = some (.lst (vN ss)) ∧ ss.length ≤ 10000 ∧ (∀ f ∈ F, ∀ x ∈ f.2, x < 64) ∧
  ∀ H' : Hp, Same H H' → (∀ p, F.find? (fun p => hopeB ss p.2) = some p → Q (.ref p.1) H') ∧ (F.find? (fun p => hopeB ss p.2) = none → Q .non H')
abbrev nFirst : List Str := ["fews", "sures", "few", "wanted", "sure"]
theorem scFirst : FnScope nFirst ["fews", "sures"] (defScope sFirst) := ⟨rfl, rfl, rfl, by decide +kernel, rfl, by decide +kernel, by decide +kernel⟩
theorem find_at {α : Type} {p : α → Bool} {l : List α} {i : Nat} {x : α} (h : l[i]? = some x) (no : ∀ y ∈ l.take i, p y = false) (hp : p x = true) : l.find? p = some x := by
  have hi := (List.getElem?_eq_some_iff.mp h).1
  have e : l = l.take i ++ x :: l.drop (i + 1) := by
    rw [← (List.getElem?_eq_some_iff.mp h).2, List.getElem_cons_drop, List.take_append_drop]
  rw [e, List.find?_append, List.find?_eq_none.mpr (fun y my => by rw [no y my]; exact Bool.false_ne_true), List.find?_cons, hp]
  rfl
section
variable {P : Program} {w : World} {K : PySem.W.Frag} {mg : Str → Option Value} {base : Heap}
theorem ok_first {f fB : Addr} {fd fdB : FuncData} (F' : Fun K "first_hopeless" "first_hopeless" sFirst f fd) (O : Own mg) (B' : Def P w K mg base 1 "bits_of" ["numbers"] (spBits K) fB fdB) : FnOk P w K mg base CX0 2 f fd ["fews", "sures"] spFirst := by
  refine F'.ok scFirst (fun vs H Q E h => ?_) (fun cdv A outer s H vs Q E hr h => ?_)
  · obtain ⟨a, s, F, ss, rfl, _⟩ := h
    rfl
  · refine ⟨_, pss_cons (ps_for PassesOwn.never rfl (pi_list (pv 0)) (pg_name (i := 2) scFirst.nd rfl (Or.inl rfl))
        (pss_cons (ps_set (i := 3) scFirst.nd rfl (Or.inr rfl) (pe_call B'.ok hr rfl B'.g B'.kp B'.b .nil pass0 (pa_cons (pv 2) pa_nil)))
        (pss_one (ps_if (pt_not (pt_val (pe_callB (cr_any rfl) (by rfl) O.any (by decide +kernel) (pa_cons
          (pe_lc (own := [("sure", 4)]) (g := gName 4) (tt := tYes) rfl scFirst.nd (pi_list (pv 1)) (blkOk_by (N := nFirst) (sc := defScope sFirst) (by decide +kernel))
            (fun _ _ _ _ _ => pg_name (i := 4) scFirst.nd rfl (Or.inl rfl)) (fun _ _ _ _ _ => pts_nil)
            (fun _ _ _ _ _ => pe_cmpR op_eq (pe_op op_andN (pv 4) (pv 3)) (pv 3) (nomark _))) pa_nil)))) (pss_one (ps_ret (pv 2))) pss_nil))))
      (pss_one (ps_ret pe_non)), ?_⟩
    obtain ⟨a, s, F, ss, rfl, ha, lF, hs, sl, lt, k⟩ := h
    have big : (100000 : Nat) < sizeLine := by decide
    refine ⟨_, rfl, a, rfl, ⟨_, SqL.of ha⟩, for_list (K := K) (a := a) (xs := refH F) (fun i σ H' => ∃ (u v : Option V), σ = [some (.ref a), some (.ref s), u, v, none] ∧ Same H H' ∧ ∀ p ∈ F.take i, hopeB ss p.2 = false)
      ⟨none, none, rfl, Same.refl _, fun p m => by rw [List.take_zero] at m; cases m⟩ (fun i σ H' _ ⟨_, _, _, s1, _⟩ => SqL.of (s1 _ _ ha)) ?_ ?_⟩
    · rintro i x σ H1 hi ⟨u, v, rfl, s1, no⟩
      obtain ⟨p, pi, rfl⟩ := refH_get hi
      have pm := List.mem_of_getElem? pi
      refine ⟨_, rfl, p.1, p.2, rfl, .inl (SqL.of (s1 _ _ (lF p pm))), lt p pm, ?_⟩
      refine ⟨_, rfl, s, rfl, ⟨_, SqL.of (s1 _ _ hs)⟩, fun D hD => ?_⟩
      refine lc_list (K := K) (a := s) (xs := vN ss) (fun j H' => H' = upd H1 D (.lst (((ss.take j).map fun x => decide (x &&& bitsOf p.2 = bitsOf p.2)).map V.bl))) rfl (fun j H' _ z => by rw [z]; exact SqL.of (same_new hD _ _ (s1 _ _ hs))) ?_ ?_
      · rintro j y H2 hj rfl
        obtain ⟨n, en, rfl⟩ := vN_get hj
        have jl := (List.getElem?_eq_some_iff.mp en).1
        refine ⟨rfl, _, rfl, _, rfl, n, bitsOf p.2, rfl, rfl, _, rfl, rfl, _, upd_same, ?_, ?_⟩
        · rw [List.length_map, List.length_map, List.length_take]; omega
        · rw [upd_upd, dec_int, show (((n &&& bitsOf p.2 : Nat) : Int) == ((bitsOf p.2 : Nat) : Int)) = decide (n &&& bitsOf p.2 = bitsOf p.2) by rw [Bool.eq_iff_iff, beq_iff_eq, decide_eq_true_eq]; omega]
          rw [List.take_succ_eq_append_getElem jl, (List.getElem?_eq_some_iff.mp en).2, List.map_append, List.map_append]
          rfl
      · rintro H2 rfl
        rw [vN_len, List.take_length]
        refine ⟨D, _, rfl, SqL.of upd_same, _, rfl, ?_⟩
        have eh : hopeB ss p.2 = !((ss.map fun x => decide (x &&& bitsOf p.2 = bitsOf p.2)).any id) := by unfold hopeB; rw [List.any_map]; rfl
        have sA := s1.trans (same_new (o := .lst ((ss.map fun x => decide (x &&& bitsOf p.2 = bitsOf p.2)).map V.bl)) hD)
        cases c : (ss.map fun x => decide (x &&& bitsOf p.2 = bitsOf p.2)).any id with
        | true =>
          rw [c] at eh
          refine iteF ⟨_, _, rfl, sA, fun q mq => ?_⟩
          rw [List.take_succ_eq_append_getElem (List.getElem?_eq_some_iff.mp pi).1, (List.getElem?_eq_some_iff.mp pi).2] at mq
          rcases List.mem_append.mp mq with mq | mq
          · exact no q mq
          · rw [List.mem_singleton.mp mq]; exact eh
        | false =>
          rw [c] at eh
          exact iteT ⟨_, rfl, (k _ sA).1 p (find_at pi no eh)⟩
    · rintro σ H1 ⟨u, v, rfl, s1, no⟩
      rw [refH_len, List.take_length] at no
      exact (k H1 s1).2 (List.find?_eq_none.mpr fun q mq => by rw [no q mq]; exact Bool.false_ne_true)
end
/-! ### fewest_hopeless -/
abbrev sFewest : Stmt := top 42
def coreOf (S : SB) : Option (List Nat) := Km537.core (Km537.allSures S.base S.a) S.marks
def spFewest (P : Program) (w : World) (C : Addr) : Sp := fun vs H Q _ => ∃ (b : Addr) (Y : BP) (S : SB), vs = [.ref b] ∧ BoardIn P w C H b Y S ∧ SOk S ∧ rulesUp S.views ≤ 6000 ∧ goodOf S S.a = [] ∧
  ∀ (H' : Hp) (Y' : BP) (q : Addr) (f : List Nat), Knew P w C H b Y S H' Y' → H' q = some (.lst (vN f)) → coreOf S = some f → f.length ≤ 64 → Q (.ref q) H'
abbrev nFewest : List Str := ["board", "sures", "rule", "sure", "fews", "hopeless"]
theorem scFewest : FnScope nFewest ["board"] (defScope sFewest) := ⟨rfl, rfl, rfl, by decide +kernel, rfl, by decide +kernel, by decide +kernel⟩
theorem keys_put {kvs : List (Key × V)} {ks : List Nat} (e : kvs.map (·.1) = ks.map keyN) (i : Nat) (v : V) : ∃ ks' : List Nat, (putK kvs (keyN i) v).map (·.1) = ks'.map keyN ∧ ∀ s, s ∈ ks' ↔ s ∈ ks ∨ s = i := by
  by_cases c : i ∈ ks
  · refine ⟨ks, ?_, fun s => ⟨.inl, fun z => z.elim id fun z => z ▸ c⟩⟩
    have h : (kvs.any fun kv => decide (kv.1 = keyN i)) = true := by rw [valV_any, mark_in e, decide_eq_true c]
    unfold putK
    rw [h, if_pos rfl, List.map_map, ← e]
    refine List.map_congr_left fun x _ => ?_
    show (if x.1 = keyN i then (x.1, v) else x).1 = x.1
    split <;> rfl
  · exact ⟨ks ++ [i], mark_put e c v, fun s => by rw [List.mem_append, List.mem_singleton]⟩
theorem keys_vN {kvs : List (Key × V)} {ks : List Nat} (e : kvs.map (·.1) = ks.map keyN) : (kvs.map fun kv => kV kv.1) = vN ks := by
  have h : (kvs.map fun kv => kV kv.1) = (kvs.map (·.1)).map kV := by rw [List.map_map]; rfl
  rw [h, e, List.map_map]
  rfl
theorem find_map {F : LT} {p : List Nat → Bool} : (F.map (·.2)).find? p = (F.find? fun x => p x.2).map (·.2) := by rw [List.find?_map]; rfl
section
variable {S : SB}
theorem marks_sorted (S : SB) : S.marks.Pairwise (· < ·) := risen_sorted _ _
theorem marks_len (ok : SOk S) : S.marks.length ≤ 10 := by
  unfold SB.marks risen
  refine Nat.le_trans (List.length_filter_le _ _) ?_
  rw [List.length_range]
  exact names_ten ok
theorem marks_lt (ok : SOk S) : ∀ i ∈ S.marks, i < 64 := fun i mi => ord_64 ok i ((marks_mem ok).mp mi)
theorem choose_few (ok : SOk S) (k : Nat) : (Km537.choose k S.marks).length ≤ 10000 := by
  have z := choose_len k S.marks
  have z2 : 2 ^ S.marks.length ≤ 2 ^ 10 := Nat.pow_le_pow_right (by decide) (marks_len ok)
  omega
theorem hope_all (h : goodOf S S.a = []) : hopeless (Km537.allSures S.base S.a) S.marks = true := by
  unfold hopeless
  rw [Bool.not_eq_true', List.any_eq_false]
  intro p mp
  have e : Km537.allSures S.base S.a = (rulesOf S).map fun r => (r, suresOf S S.a r) := rfl
  rw [e] at mp
  obtain ⟨r, mr, rfl⟩ := List.mem_map.mp mp
  have z := List.filter_eq_nil_iff.mp h r mr
  exact z
end
section
variable {P : Program} {w : World} {K : PySem.W.Frag} {mg : Str → Option Value} {base : Heap} {C : Addr}
theorem ok_fewest {f fM fF fE : Addr} {fd fdM fdF fdE : FuncData} (F' : Fun K "fewest_hopeless" "fewest_hopeless" sFewest f fd) (O : Own mg) (T : Txt K mg C) (M' : Def P w K mg base 1 "with_one_more" ["fews", "numbers"] spMoreF fM fdM) (H' : Def P w K mg base 2 "first_hopeless" ["fews", "sures"] spFirst fF fdF) (N : Def P w K mg base 8 "sure_by_each" ["board", "moves"] (spEach P w C) fE fdE) :
    FnOk P w K mg base CX0 9 f fd ["board"] (spFewest P w C) := by
  refine F'.ok scFewest (fun vs H Q E h => ?_) (fun cdv A outer s H vs Q E hr h => ?_)
  · obtain ⟨b, Y, S, rfl, _⟩ := h
    rfl
  · refine ⟨_, pss_cons (ps_set (i := 1) scFewest.nd rfl (Or.inl rfl) pe_dnewK)
      (pss_cons (ps_for PassesOwn.never rfl (pi_list (pe_call N.ok hr rfl N.g N.kp N.b .nil pass0 (pa_cons (pv 0) (pa_cons (pe_fld (pv 0) rfl) pa_nil)))) (pg_tup rfl (pgs_cons (pg_name (i := 2) scFewest.nd rfl (Or.inl rfl)) (pgs_cons (pg_name (i := 3) scFewest.nd rfl (Or.inl rfl)) pgs_nil)))
        (pss_one (ps_dput (hu_of hr) (pv 1) (pv 3) pe_bl rfl)))
      (pss_cons (ps_set (i := 4) scFewest.nd rfl (Or.inl rfl) (pe_lst (pa_cons (pe_lst pa_nil) pa_nil)))
      (pss_cons (ps_set (i := 5) scFewest.nd rfl (Or.inl rfl) pe_non)
      (pss_cons (ps_while PassesOwn.never (pt_cmp (pc_isN (pv 5)))
        (pss_cons (ps_set (i := 4) scFewest.nd rfl (Or.inl rfl) (pe_call M'.ok (hr.mono (by decide)) rfl M'.g M'.kp M'.b .nil pass0 (pa_cons (pv 4) (pa_cons (pe_callB (call_sortedDI rfl) (by rfl) O.sorted (by decide +kernel) (pa_cons (pe_fld (pv 0) rfl) pa_nil)) pa_nil))))
        (pss_one (ps_set (i := 5) scFewest.nd rfl (Or.inl rfl) (pe_call H'.ok (hr.mono (by decide)) rfl H'.g H'.kp H'.b .nil pass0 (pa_cons (pv 4) (pa_cons (pe_callTy (call_listD rfl) (by rfl) O.list (by decide +kernel) (pa_cons (pv 1) pa_nil)) pa_nil)))))))
      (pss_one (ps_ret (pv 5))))))), ?_⟩
    obtain ⟨b, Y, S, rfl, I, ok, few, none', k⟩ := h
    have big : (100000 : Nat) < sizeLine := by decide
    intro D hD
    have sD := same_new (o := .dK []) hD
    have I0 := I.same sD
    refine ⟨_, rfl, _, rfl, b, C, Y.dx, Y.fs, _, rfl, I0.obj, T.cl, T.nA, I0.fa, b, Y, S, S.a, rfl, I0, ok, ok.a, few, fun H1 Y1 q0 L kn mq => ?_⟩
    have I1 := kn.in_
    have hq : H1 q0 = some (.lst (refQ L)) := I1.tQ _ mq
    have rq : ∀ y ∈ L, H1 y.1 = some (.tup [.ref y.2.1, .int (y.2.2.2 : Nat)]) ∧ H1 y.2.1 = some (.tup (vN y.2.2.1)) := I1.rQ _ mq
    have cq : (L.map fun y => y.2.2) = (rulesOf S).map fun r => (r, bitsOf (suresOf S S.a r)) := by rw [← sure_each]; exact I1.cQ _ mq
    have ll := kept_len I1 ok few mq
    have nD0 : D ∉ Y.own b := I.free hD
    have hD1 : H1 D = some (.dK []) := kn.keep D _ upd_same (fun z => nD0 (z ▸ in_aK)) (fun z => nD0 (z ▸ in_aQ))
    have nD1 : D ∉ Y1.own b := fun m => by
      rcases kn.sub D m with z | z
      · exact nD0 z
      · rw [upd_same] at z; cases z
    have kn0 : Knew P w C H b Y S H1 Y1 := ⟨kn.in_, kn.as_, fun x mx => by
      rcases kn.sub x mx with z | z
      · exact .inl z
      · exact .inr (sD.free z), fun x o e n1 n2 => kn.keep x o (sD _ _ e) n1 n2⟩
    refine ⟨q0, rfl, ⟨_, SqL.of hq⟩, for_list (K := K) (a := q0) (xs := refQ L) (fun j σ H' => ∃ (u v : Option V) (kvs : List (Key × V)) (ks : List Nat), σ = [some (.ref b), some (.ref D), u, v, none, none] ∧ But D H1 H' ∧ H' D = some (.dK kvs) ∧ kvs.length ≤ j ∧ kvs.map (·.1) = ks.map keyN ∧ ∀ s, s ∈ ks ↔ s ∈ (L.take j).map fun y => y.2.2.2)
      ⟨none, none, [], [], rfl, But.refl _ _, hD1, Nat.le_refl _, rfl, fun s => by simp⟩ (fun j σ H' _ ⟨_, _, _, _, _, bt, _⟩ => SqL.of (bt _ _ hq (ne_kinds hq hD1 (fun z => by cases z)))) ?_ ?_⟩
    · rintro j x σ H2 hj ⟨u, v, kvs, ks, rfl, b2, h2, len, ek, mem⟩
      obtain ⟨y, yj, rfl⟩ := refQ_get hj
      have ym := List.mem_of_getElem? yj
      have jl := (List.getElem?_eq_some_iff.mp yj).1
      have hy := b2 _ _ (rq y ym).1 (ne_kinds (rq y ym).1 hD1 (fun z => by cases z))
      obtain ⟨ks', ek', mem'⟩ := keys_put ek y.2.2.2 (V.bl true)
      refine ⟨y.1, _, rfl, SqT.of hy, rfl, _, _, rfl, _, _, rfl, rfl, ?_⟩
      refine ⟨_, rfl, _, rfl, D, _, rfl, DPut.k (k := keyN y.2.2.2) h2 (by omega), ?_⟩
      refine ⟨_, _, _, ks', rfl, b2.upd, upd_same, Nat.le_trans (putK_le _ _ _) (Nat.succ_le_succ len), ek', fun s => ?_⟩
      rw [mem' s, mem s, List.take_succ_eq_append_getElem jl, (List.getElem?_eq_some_iff.mp yj).2, List.map_append, List.mem_append]
      exact or_congr_right (by simp)
    · rintro σ H2 ⟨u, v, kvs, ks, rfl, b2, h2, len, ek, mem⟩
      rw [refQ_len, List.take_length] at mem
      rw [refQ_len] at len
      have I2 : BoardIn P w C H2 b Y1 S := I1.frame (fun x m => by
        obtain ⟨o, e, _⟩ := I1.live x m
        rw [e]
        exact b2 _ _ e (fun z => nD1 (z ▸ m))) (fun x vs e => b2 _ _ e (ne_kinds e hD1 (fun z => by cases z)))
      have kn2 : Knew P w C H b Y S H2 Y1 := ⟨I2, kn0.as_, kn0.sub, fun x o e n1 n2 => b2 _ _ (kn0.keep x o e n1 n2) (fun z => by rw [z, hD] at e; cases e)⟩
      have hop : ∀ f, hopeB ks f = hopeless (Km537.allSures S.base S.a) f := hope_is fun s => by
        have e : Km537.allSures S.base S.a = (rulesOf S).map fun r => (r, suresOf S S.a r) := rfl
        have e2 : (L.map fun y => y.2.2.2) = (rulesOf S).map fun r => bitsOf (suresOf S S.a r) := by
          have e3 : (L.map fun y => y.2.2.2) = (L.map fun y => y.2.2).map (·.2) := by rw [List.map_map]; rfl
          rw [e3, cq, List.map_map]
          rfl
        rw [mem s, e2, e]
        constructor
        · intro m
          obtain ⟨r, mr, rfl⟩ := List.mem_map.mp m
          exact ⟨_, List.mem_map_of_mem mr, rfl⟩
        · rintro ⟨p, mp, rfl⟩
          obtain ⟨r, mr, rfl⟩ := List.mem_map.mp mp
          exact List.mem_map.mpr ⟨r, mr, rfl⟩
      have kl : ks.length ≤ 6000 := by rw [← mark_len ek]; omega
      refine ⟨Nat.zero_le _, fun e he => ⟨by show 1 ≤ sizeLine; decide, fun c0 hc0 => ?_⟩⟩
      have s3 := (same_new (o := .lst []) he).trans (same_new (o := .lst [V.ref e]) hc0)
      have ec : e ≠ c0 := fun z => by rw [← z, upd_same] at hc0; cases hc0
      refine ⟨fun m σ H' => ∃ (c : Addr) (G : LT) (j : Nat) (hv : V) (u v : Option V), σ = [some (.ref b), some (.ref D), u, v, some (.ref c), some hv] ∧ Same H2 H' ∧ H' c = some (.lst (refH G)) ∧ ListsN H' G ∧ G.map (·.2) = Km537.choose j S.marks ∧
          ((hv = .non ∧ m = S.marks.length - j + 1 ∧ j ≤ S.marks.length ∧ ∀ i, i ≤ j → (Km537.choose i S.marks).find? (hopeless (Km537.allSures S.base S.a)) = none) ∨ (m = 0 ∧ j ≤ S.marks.length ∧ ∃ p ∈ G, hv = .ref p.1 ∧ coreOf S = some p.2)),
        ⟨_, c0, [(e, [])], 0, .non, u, v, rfl, s3, upd_same, fun p m => ?_, ?_, .inl ⟨rfl, rfl, Nat.zero_le _, fun i hi => ?_⟩⟩, ?_⟩
      · rw [List.mem_singleton.mp m, upd_ne ec, upd_same]
        rfl
      · rw [choose_zero]; rfl
      · have : i = 0 := by omega
        subst this
        rw [choose_zero, List.find?_eq_none]
        intro f mf
        rw [List.mem_singleton.mp mf]
        unfold hopeless
        have : ((Km537.allSures S.base S.a).any fun p => Km537.goodFor [] p.2) = true := by
          have e' : Km537.allSures S.base S.a = (rulesOf S).map fun r => (r, suresOf S S.a r) := rfl
          have z1 := rules_len ok
          have z2 : 1 ≤ rulesUp S.views := up_ge S.views 1
          rw [e']
          cases e'' : rulesOf S with
          | nil => rw [e''] at z1; simp at z1; omega
          | cons r R => rfl
        rw [this]
        exact Bool.false_ne_true
      rintro m σ H4 ⟨c, G, j, hv, u, v, rfl, s4, hc, lG, eG, inv⟩
      rcases inv with ⟨rfl, rfl, jl, no⟩ | ⟨rfl, jl, p, pm, rfl, co⟩
      · refine ⟨_, rfl, _, rfl, iteT ⟨_, fun σ' H' z => z, ?_⟩⟩
        have jl2 : j < S.marks.length := by
          rcases Nat.lt_or_eq_of_le jl with z | z
          · exact z
          · have z1 := no j (Nat.le_refl _)
            rw [z, choose_all, List.find?_cons, hope_all none'] at z1
            cases z1
        have I4 := I2.same s4
        refine ⟨_, rfl, _, rfl, b, C, Y1.dx, Y1.fs, _, rfl, I4.obj, T.cl, T.nM, I4.fM, Y1.aM, Y1.kvs, zN S.ord, rfl, .inl I4.hM, ?_, by unfold zN; rw [List.length_map]; exact ord_len ok, fun ys p hp hs hn => ?_⟩
        · rw [I4.eM]
          unfold zN
          rw [List.map_map]
          rfl
        · have ey := risen_is ok.nd ok.lt hp hs
          have sp := same_new (o := .lst (ys.map V.int)) hn
          have hp5 : upd H4 p (.lst (ys.map V.int)) p = some (.lst (vN S.marks)) := by rw [upd_same, ey, ← vN_zN]; rfl
          have up := choose_up S.marks (marks_sorted S) j
          refine ⟨c, p, G, S.marks, rfl, sp _ _ hc, lG.same sp, hp5, ?_, fun f mf => ?_, fun H6 c6 G6 s6 n6 h6 l6 e6 => ?_⟩
          · rw [eG, ← up]; exact choose_few ok _
          · have : f.2 ∈ G.map (·.2) := List.mem_map_of_mem mf
            rw [eG] at this
            rw [(choose_mem _ _ _ this).1]
            have := marks_len ok
            omega
          · rw [eG, ← up] at e6
            have s46 := sp.trans s6
            have hD6 : H6 D = some (.dK kvs) := s46 _ _ (s4 _ _ h2)
            refine ⟨_, rfl, _, rfl, D, kvs, rfl, .inl hD6, fun ls hls => ?_⟩
            rw [keys_vN ek]
            have sl := same_new (o := .lst (vN ks)) hls
            refine ⟨c6, ls, G6, ks, rfl, sl _ _ h6, l6.same sl, upd_same, by omega, fun f mf x mx => ?_, fun H7 s7 => ⟨fun pp hpp => ?_, fun hno => ?_⟩⟩
            · have : f.2 ∈ G6.map (·.2) := List.mem_map_of_mem mf
              rw [e6] at this
              exact marks_lt ok x ((choose_mem _ _ _ this).2 x mx)
            · have s67 := sl.trans s7
              have fm : (Km537.choose (j + 1) S.marks).find? (hopeless (Km537.allSures S.base S.a)) = some pp.2 := by
                rw [← e6, find_map]
                have : (fun x : Addr × List Nat => hopeless (Km537.allSures S.base S.a) x.2) = fun x => hopeB ks x.2 := by funext x; exact (hop x.2).symm
                rw [this, hpp]
                rfl
              refine ⟨0, by omega, c6, G6, j + 1, .ref pp.1, u, v, rfl, (s4.trans s46).trans s67, s67 _ _ h6, l6.same s67, e6, .inr ⟨rfl, jl2, pp, List.mem_of_find?_eq_some hpp, rfl, core_some jl2 (fun i hi => no i (by omega)) fm⟩⟩
            · have s67 := sl.trans s7
              have fm : (Km537.choose (j + 1) S.marks).find? (hopeless (Km537.allSures S.base S.a)) = none := by
                rw [← e6, find_map]
                have : (fun x : Addr × List Nat => hopeless (Km537.allSures S.base S.a) x.2) = fun x => hopeB ks x.2 := by funext x; exact (hop x.2).symm
                rw [this, hno]
                rfl
              refine ⟨S.marks.length - (j + 1) + 1, by omega, c6, G6, j + 1, .non, u, v, rfl, (s4.trans s46).trans s67, s67 _ _ h6, l6.same s67, e6, .inl ⟨rfl, rfl, jl2, fun i hi => ?_⟩⟩
              rcases Nat.lt_or_eq_of_le hi with z | z
              · exact no i (by omega)
              · rw [z]; exact fm
      · refine ⟨_, rfl, _, rfl, iteF ⟨_, rfl, ?_⟩⟩
        refine k H4 Y1 p.1 p.2 (kn2.same s4) (lG p pm) co ?_
        have : p.2 ∈ G.map (·.2) := List.mem_map_of_mem pm
        rw [eG] at this
        rw [(choose_mem _ _ _ this).1]
        have := marks_len ok
        omega
end
end RF

/-! ## RFCallsG -/
namespace RF
open PySem PySem.Spec PyProof.Rows L2
section
variable {P : Program} {w : World} {K : PySem.W.Frag} {mg : Str → Option Value} {base : Heap} {C : Addr}
/-- the end of a call by which more is known -/
theorem call_kn {H H1 H2 : Hp} {b q : Addr} {Y Y1 : BP} {S : SB} {ans : List Int} {Q : VK} (I : BoardIn P w C H b Y S) (kn : Knew P w C H b Y S H1 Y1) (s : Same H1 H2) (nq : H1 q = none) (e : H2 q = some (.lst (ans.map V.int)))
    (k : ∀ (H' : Hp) (q : Addr) (own' : List Addr), Board P w C H' b own' S → (∀ x ∈ own', x ∈ Y.own b ∨ H x = none) → Keeps H (Y.own b) H' → H' q = some (.lst (ans.map V.int)) → H q = none → q ∉ own' → Q (.ref q) H') : Q (.ref q) H2 :=
  k H2 q (Y1.own b) ⟨Y1, kn.in_.same s, rfl⟩ kn.sub (kn.same s).keeps e (kn.fresh I nq) (kn.in_.free nq)
theorem knew_km {H H1 : Hp} {b : Addr} {Y : BP} {S : SB} {km : N3} (I1 : BoardIn P w C H1 b { Y with km := km } S) (bt : But Y.aK H H1) : Knew P w C H b Y S H1 { Y with km := km } :=
  ⟨I1, ⟨km, Y.kq, rfl⟩, fun _ m => .inl m, fun x o e n _ => bt x o e n⟩
/-! ### call_rule -/
abbrev sCRule : Stmt := top 71
def fRule (S : SB) (_ : List Int) : SB × List Int := (S, (S.rule.length : Int) :: zN S.rule)
theorem scCRule : FnScope ["board", "arguments"] ["board", "arguments"] (defScope sCRule) := ⟨rfl, rfl, rfl, by decide +kernel, rfl, by decide +kernel, by decide +kernel⟩
theorem ok_crule {f fC : Addr} {fd fdC : FuncData} (F : Fun K "call_rule" "call_rule" sCRule f fd) (T : Txt K mg C) (N : Def P w K mg base 1 "counted" ["numbers"] spCounted fC fdC) :
    FnOk P w K mg base CX0 2 f fd ["board", "arguments"] (spCall P w K C (fun _ _ => True) fRule) := by
  refine F.ok scCRule (fun vs H Q E h => ?_) (fun cdv A outer s H vs Q E hr h => ?_)
  · obtain ⟨b, ar, own, S, as, rfl, _⟩ := h
    rfl
  · refine ⟨_, pss_one (ps_ret (pe_call N.ok hr rfl N.g N.kp N.b .nil pass0 (pa_cons (pe_fld (pv 0) rfl) pa_nil))), ?_⟩
    obtain ⟨b, ar, own, S, as, rfl, B, ok, ha, har, _, k⟩ := h
    obtain ⟨Y, I, eo⟩ := id B
    have vl := views_len2 ok
    have rl := ok.rl
    refine ⟨_, rfl, b, C, Y.dx, Y.fs, _, rfl, I.obj, T.cl, T.nR, I.fR, Y.aR, zN S.rule, rfl, by rw [← vN_zN]; exact I.hR, by unfold zN; rw [List.length_map]; omega, fun H' q s' n' e' => ?_⟩
    refine call_pure B s' n' ?_ k
    rw [e']
    unfold fRule zN
    rw [List.length_map]
/-! ### call_told -/
abbrev sCTold : Stmt := top 83
def fTold (S : SB) (_ : List Int) : SB × List Int := (S, [(S.n : Int), (S.e : Int), (S.k : Int), (S.a : Int), (S.ord.length : Int)])
theorem scCTold : FnScope ["board", "arguments"] ["board", "arguments"] (defScope sCTold) := ⟨rfl, rfl, rfl, by decide +kernel, rfl, by decide +kernel, by decide +kernel⟩
theorem ok_ctold {f : Addr} {fd : FuncData} (F : Fun K "call_told" "call_told" sCTold f fd) (O : Own mg) (T : Txt K mg C) :
    FnOk P w K mg base CX0 1 f fd ["board", "arguments"] (spCall P w K C (fun _ _ => True) fTold) := by
  refine F.ok scCTold (fun vs H Q E h => ?_) (fun cdv A outer s H vs Q E hr h => ?_)
  · obtain ⟨b, ar, own, S, as, rfl, _⟩ := h
    rfl
  · refine ⟨_, pss_one (ps_ret (pe_lst (pa_cons (pe_fld (pv 0) rfl) (pa_cons (pe_fld (pv 0) rfl) (pa_cons (pe_fld (pv 0) rfl) (pa_cons (pe_fld (pv 0) rfl) (pa_cons (pe_callB call_lenD (by rfl) O.len PySem.boot_len (pa_cons (pe_fld (pv 0) rfl) pa_nil)) pa_nil))))))), ?_⟩
    obtain ⟨b, ar, own, S, as, rfl, B, ok, ha, har, _, k⟩ := h
    obtain ⟨Y, I, eo⟩ := id B
    refine ⟨_, rfl, b, C, Y.dx, Y.fs, _, rfl, I.obj, T.cl, T.nP, I.fp, _, rfl, b, C, Y.dx, Y.fs, _, rfl, I.obj, T.cl, T.nE, I.fe, _, rfl, b, C, Y.dx, Y.fs, _, rfl, I.obj, T.cl, T.nK, I.fk, _, rfl, b, C, Y.dx, Y.fs, _, rfl, I.obj, T.cl, T.nA, I.fa, _, rfl, b, C, Y.dx, Y.fs, _, rfl, I.obj, T.cl, T.nM, I.fM, Y.aM, _, rfl, I.hM, by show 5 ≤ sizeLine; decide, fun q hq => ?_⟩
    refine call_pure B (same_new hq) hq ?_ k
    rw [upd_same, mark_len I.eM]
    rfl
/-! ### call_good, call_goods -/
abbrev sCGood : Stmt := top 72
def fGood (S : SB) (_ : List Int) : SB × List Int := (S, [(gainOf S S.rule : Int), (S.ord.length : Int)])
theorem scCGood : FnScope ["board", "arguments", "gathered"] ["board", "arguments"] (defScope sCGood) := ⟨rfl, rfl, rfl, by decide +kernel, rfl, by decide +kernel, by decide +kernel⟩
theorem ok_cgood {f fS fB fN : Addr} {fd fdS fdB fdN : FuncData} (F : Fun K "call_good" "call_good" sCGood f fd) (O : Own mg) (T : Txt K mg C) (S' : Def P w K mg base 7 "sure_by" ["board", "rule", "moves"] (spSureBy P w C) fS fdS) (B' : Def P w K mg base 1 "bits_of" ["numbers"] (spBits K) fB fdB) (N' : Def P w K mg base 1 "numbers_of" ["bits"] spNums fN fdN) :
    FnOk P w K mg base CX0 8 f fd ["board", "arguments"] (spCall P w K C (fun _ _ => True) fGood) := by
  refine F.ok scCGood (fun vs H Q E h => ?_) (fun cdv A outer s H vs Q E hr h => ?_)
  · obtain ⟨b, ar, own, S, as, rfl, _⟩ := h
    rfl
  · refine ⟨_, pss_cons (ps_set (i := 2) scCGood.nd rfl (Or.inl rfl) (pe_op op_andN (pe_call S'.ok hr rfl S'.g S'.kp S'.b .nil pass0 (pa_cons (pv 0) (pa_cons (pe_fld (pv 0) rfl) (pa_cons (pe_fld (pv 0) rfl) pa_nil)))) (pe_call B'.ok (hr.mono (by decide)) rfl B'.g B'.kp B'.b .nil pass0 (pa_cons (pe_fld (pv 0) rfl) pa_nil))))
      (pss_one (ps_ret (pe_lst (pa_cons (pe_callB call_len_seq (by rfl) O.len PySem.boot_len (pa_cons (pe_call N'.ok (hr.mono (by decide)) rfl N'.g N'.kp N'.b .nil pass0 (pa_cons (pv 2) pa_nil)) pa_nil)) (pa_cons (pe_callB call_lenD (by rfl) O.len PySem.boot_len (pa_cons (pe_fld (pv 0) rfl) pa_nil)) pa_nil))))), ?_⟩
    obtain ⟨b, ar, own, S, as, rfl, B, ok, ha, har, _, k⟩ := h
    obtain ⟨Y, I, eo⟩ := id B
    subst eo
    refine ⟨_, rfl, _, rfl, b, C, Y.dx, Y.fs, _, rfl, I.obj, T.cl, T.nR, I.fR, _, rfl, b, C, Y.dx, Y.fs, _, rfl, I.obj, T.cl, T.nA, I.fa, b, Y.aR, Y, S, S.a, S.rule, rfl, I, ok, ok.a, .inl I.hR, ok.ruleOk, fun H1 km I1 bt => ?_⟩
    have kn := knew_km I1 bt
    have lt : bitsOf (suresOf S S.a S.rule) &&& bitsOf S.ord < 2 ^ 64 := Nat.lt_of_le_of_lt Nat.and_le_right (bitsOf_lt (ord_64 ok))
    refine ⟨_, rfl, b, C, Y.dx, Y.fs, _, rfl, I1.obj, T.cl, T.nM, I1.fM, Y.aM, S.ord, rfl, .inr ⟨Y.kvs, I1.hM, I1.eM⟩, ord_64 ok, _, _, rfl, rfl, ?_⟩
    refine ⟨_, rfl, _, rfl, lt, fun qn hqn => ⟨qn, _, rfl, .inl (SqL.of upd_same), ?_⟩⟩
    have sn := same_new (o := .lst (vN (numsOf (bitsOf (suresOf S S.a S.rule) &&& bitsOf S.ord)))) hqn
    have I2 := I1.same sn
    refine ⟨_, rfl, b, C, Y.dx, Y.fs, _, rfl, I2.obj, T.cl, T.nM, I2.fM, Y.aM, _, rfl, I2.hM, by show 2 ≤ sizeLine; decide, fun q hq => ?_⟩
    refine call_kn I (kn.same sn) (same_new hq) hq ?_ k
    rw [upd_same, vN_len, gain_bits ok, mark_len I2.eM]
    rfl
abbrev sCGoods : Stmt := top 73
def fGoods (S : SB) (_ : List Int) : SB × List Int := (S, ((suresOf S S.a S.rule).length : Int) :: zN (suresOf S S.a S.rule))
theorem nums_sures {S : SB} (ok : SOk S) (m : Nat) (r : List Nat) : numsOf (bitsOf (suresOf S m r)) = suresOf S m r := by
  rw [numsOf_eq (bitsOf_lt (sures_lt ok m r))]
  obtain ⟨p, e, _⟩ := suresBy_eq (Km537.table S.base m) r
  have e : suresOf S m r = (List.range S.names.length).filter p := by rw [← table_len ok m]; exact e
  rw [e]
  refine List.filter_congr fun i mi => ?_
  rw [bitsOf_test, Bool.eq_iff_iff, decide_eq_true_eq, List.mem_filter]
  exact ⟨fun z => z.2, fun z => ⟨mi, z⟩⟩
theorem sures_len {S : SB} (ok : SOk S) (m : Nat) (r : List Nat) : (suresOf S m r).length ≤ 64 := by
  obtain ⟨p, e, _⟩ := suresBy_eq (Km537.table S.base m) r
  have e : suresOf S m r = (List.range S.names.length).filter p := by rw [← table_len ok m]; exact e
  rw [e]
  refine Nat.le_trans (List.length_filter_le _ _) ?_
  rw [List.length_range]
  have := names_len ok
  omega
theorem scCGoods : FnScope ["board", "arguments"] ["board", "arguments"] (defScope sCGoods) := ⟨rfl, rfl, rfl, by decide +kernel, rfl, by decide +kernel, by decide +kernel⟩
theorem ok_cgoods {f fS fC fN : Addr} {fd fdS fdC fdN : FuncData} (F : Fun K "call_goods" "call_goods" sCGoods f fd) (T : Txt K mg C) (S' : Def P w K mg base 7 "sure_by" ["board", "rule", "moves"] (spSureBy P w C) fS fdS) (C' : Def P w K mg base 1 "counted" ["numbers"] spCounted fC fdC) (N' : Def P w K mg base 1 "numbers_of" ["bits"] spNums fN fdN) :
    FnOk P w K mg base CX0 8 f fd ["board", "arguments"] (spCall P w K C (fun _ _ => True) fGoods) := by
  refine F.ok scCGoods (fun vs H Q E h => ?_) (fun cdv A outer s H vs Q E hr h => ?_)
  · obtain ⟨b, ar, own, S, as, rfl, _⟩ := h
    rfl
  · refine ⟨_, pss_one (ps_ret (pe_call C'.ok (hr.mono (by decide)) rfl C'.g C'.kp C'.b .nil pass0 (pa_cons (pe_call N'.ok (hr.mono (by decide)) rfl N'.g N'.kp N'.b .nil pass0 (pa_cons (pe_call S'.ok hr rfl S'.g S'.kp S'.b .nil pass0 (pa_cons (pv 0) (pa_cons (pe_fld (pv 0) rfl) (pa_cons (pe_fld (pv 0) rfl) pa_nil)))) pa_nil)) pa_nil))), ?_⟩
    obtain ⟨b, ar, own, S, as, rfl, B, ok, ha, har, _, k⟩ := h
    obtain ⟨Y, I, eo⟩ := id B
    subst eo
    refine ⟨_, rfl, _, rfl, b, C, Y.dx, Y.fs, _, rfl, I.obj, T.cl, T.nR, I.fR, _, rfl, b, C, Y.dx, Y.fs, _, rfl, I.obj, T.cl, T.nA, I.fa, b, Y.aR, Y, S, S.a, S.rule, rfl, I, ok, ok.a, .inl I.hR, ok.ruleOk, fun H1 km I1 bt => ?_⟩
    have kn := knew_km I1 bt
    have lt : bitsOf (suresOf S S.a S.rule) < 2 ^ 64 := bitsOf_lt fun i mi => by have := sures_lt ok _ _ i mi; have := names_len ok; omega
    refine ⟨_, rfl, lt, fun qn hqn => ?_⟩
    rw [nums_sures ok]
    have sn := same_new (o := .lst (vN (suresOf S S.a S.rule))) hqn
    refine ⟨qn, zN (suresOf S S.a S.rule), rfl, by rw [upd_same, ← vN_zN], by unfold zN; rw [List.length_map]; have := sures_len ok S.a S.rule; omega, fun H2 q s2 n2 e2 => ?_⟩
    refine call_kn I (kn.same sn) s2 n2 ?_ k
    rw [e2]
    unfold fGoods zN
    rw [List.length_map]
/-! ### call_many -/
abbrev sCMany : Stmt := top 77
def FewR (S : SB) (_ : List Int) : Prop := rulesUp S.views ≤ 6000
def fMany (S : SB) (_ : List Int) : SB × List Int := (S, [((goodOf S S.a).length : Int), (rulesUp S.views : Int)])
theorem scCMany : FnScope ["board", "arguments"] ["board", "arguments"] (defScope sCMany) := ⟨rfl, rfl, rfl, by decide +kernel, rfl, by decide +kernel, by decide +kernel⟩
theorem ok_cmany {f fG fH : Addr} {fd fdG fdH : FuncData} (F : Fun K "call_many" "call_many" sCMany f fd) (O : Own mg) (T : Txt K mg C) (G' : Def P w K mg base 9 "good_rules" ["board", "moves"] (spGood P w C) fG fdG) (H' : Def P w K mg base 4 "how_many_rules" ["board"] (spHow P w C) fH fdH) :
    FnOk P w K mg base CX0 10 f fd ["board", "arguments"] (spCall P w K C FewR fMany) := by
  refine F.ok scCMany (fun vs H Q E h => ?_) (fun cdv A outer s H vs Q E hr h => ?_)
  · obtain ⟨b, ar, own, S, as, rfl, _⟩ := h
    rfl
  · refine ⟨_, pss_one (ps_ret (pe_lst (pa_cons (pe_callB call_len_seq (by rfl) O.len PySem.boot_len (pa_cons (pe_call G'.ok hr rfl G'.g G'.kp G'.b .nil pass0 (pa_cons (pv 0) (pa_cons (pe_fld (pv 0) rfl) pa_nil))) pa_nil)) (pa_cons (pe_call H'.ok (hr.mono (by decide)) rfl H'.g H'.kp H'.b .nil pass0 (pa_cons (pv 0) pa_nil)) pa_nil)))), ?_⟩
    obtain ⟨b, ar, own, S, as, rfl, B, ok, ha, har, few, k⟩ := h
    obtain ⟨Y, I, eo⟩ := id B
    subst eo
    refine ⟨_, rfl, _, rfl, b, C, Y.dx, Y.fs, _, rfl, I.obj, T.cl, T.nA, I.fa, b, Y, S, S.a, rfl, I, ok, ok.a, few, fun H1 Y1 q1 M kn n1 no1 h1 t1 e1 => ?_⟩
    refine ⟨q1, _, rfl, .inl (SqL.of h1), ?_⟩
    refine ⟨_, rfl, b, _, S, rfl, ⟨Y1, kn.in_, rfl⟩, ok, fun H2 s2 => ⟨by show 2 ≤ sizeLine; decide, fun q hq => ?_⟩⟩
    refine call_kn I (kn.same s2) (same_new hq) hq ?_ k
    rw [upd_same, refH_len, LT_len e1]
    rfl
/-! ### call_best -/
abbrev sCBest : Stmt := top 78
def fBest (S : SB) (_ : List Int) : SB × List Int := (S, ((bestOf S).2 : Int) :: zN (bestOf S).1)
theorem best_len {S : SB} (ok : SOk S) : (bestOf S).1.length ≤ 64 := by
  have gen : ∀ (rs : List (List Nat × List Nat)) (o : List Nat × Nat), (∀ r ∈ rs, r.1.length ≤ 64) → o.1.length ≤ 64 → (rs.foldl (bestTurn S.marks) o).1.length ≤ 64 := fun rs => by
    induction rs with
    | nil => exact fun o _ h => h
    | cons r rs ih =>
      intro o h1 h2
      rw [List.foldl_cons]
      refine ih _ (fun x mx => h1 x (List.mem_cons_of_mem _ mx)) ?_
      unfold bestTurn
      simp only
      split
      · exact h1 r List.mem_cons_self
      · exact h2
  refine gen _ _ (fun r mr => ?_) (Nat.zero_le _)
  obtain ⟨x, mx, rfl⟩ := List.mem_map.mp mr
  show x.length ≤ 64
  rw [(rule_of ok mx).1]
  have := views_len2 ok
  omega
theorem scCBest : FnScope ["board", "arguments", "best"] ["board", "arguments"] (defScope sCBest) := ⟨rfl, rfl, rfl, by decide +kernel, rfl, by decide +kernel, by decide +kernel⟩
theorem ok_cbest {f fB : Addr} {fd fdB : FuncData} (F : Fun K "call_best" "call_best" sCBest f fd) (O : Own mg) (B' : Def P w K mg base 9 "best_rule" ["board"] (spBest P w C) fB fdB) :
    FnOk P w K mg base CX0 10 f fd ["board", "arguments"] (spCall P w K C FewR fBest) := by
  refine F.ok scCBest (fun vs H Q E h => ?_) (fun cdv A outer s H vs Q E hr h => ?_)
  · obtain ⟨b, ar, own, S, as, rfl, _⟩ := h
    rfl
  · refine ⟨_, pss_cons (ps_set (i := 2) scCBest.nd rfl (Or.inl rfl) (pe_call B'.ok hr rfl B'.g B'.kp B'.b .nil pass0 (pa_cons (pv 0) pa_nil)))
      (pss_one (ps_ret (pe_op op_cat (pe_lst (pa_cons (pe_ix ix_tup (pv 2) pe_int (fun _ _ => rfl)) pa_nil)) (pe_callTy call_list_of (by rfl) O.list (by decide +kernel) (pa_cons (pe_ix ix_tup (pv 2) pe_int (fun _ _ => rfl)) pa_nil))))), ?_⟩
    obtain ⟨b, ar, own, S, as, rfl, B, ok, ha, har, few, k⟩ := h
    obtain ⟨Y, I, eo⟩ := id B
    subst eo
    have bl := best_len ok
    have big : (100000 : Nat) < sizeLine := by decide
    refine ⟨_, rfl, b, Y, S, rfl, I, ok, few, fun H1 Y1 q1 r1 kn h1 h2 => ?_⟩
    refine ⟨_, rfl, q1, _, _, _, rfl, rfl, SqT.of h1, atI_nat (j := 0) rfl, by show 1 ≤ sizeLine; decide, fun D hD => ?_⟩
    have sD := same_new (o := .lst [V.int ((bestOf S).2 : Nat)]) hD
    refine ⟨_, rfl, q1, _, _, _, rfl, rfl, SqT.of (sD _ _ h1), atI_nat (j := 1) rfl, r1, _, rfl, .inr (SqT.of (sD _ _ h2)), fun l hl => ?_⟩
    have sl := same_new (o := .lst (vN (bestOf S).1)) hl
    refine ⟨D, l, _, _, rfl, rfl, sl _ _ upd_same, upd_same, ?_, fun q hq => ?_⟩
    · rw [vN_len]
      show 1 + _ ≤ sizeLine
      omega
    · refine call_kn I (kn.same (sD.trans sl)) (same_new hq) hq ?_ k
      rw [upd_same, vN_zN]
      rfl
/-! ### call_needed -/
abbrev sCNeed : Stmt := top 79
def fNeed (S : SB) (as : List Int) : SB × List Int := if goodOf S S.a = [] then (S, [-33]) else (S, [(bitsOf ((goodOf S S.a).map fun r => r.getD (a0 as) 0) : Int)])
def NeedP (S : SB) (as : List Int) : Prop := FewR S as ∧ Names0 (fun S => S.views.length) S as
abbrev nCNeed : List Str := ["board", "arguments", "good", "rule"]
theorem scCNeed : FnScope nCNeed ["board", "arguments"] (defScope sCNeed) := ⟨rfl, rfl, rfl, by decide +kernel, rfl, by decide +kernel, by decide +kernel⟩
theorem good_rule {S : SB} (ok : SOk S) {m : Nat} {r : List Nat} (h : r ∈ goodOf S m) : RuleOk S r := rule_of ok (List.mem_filter.mp h).1
theorem good_len {S : SB} (ok : SOk S) (few : rulesUp S.views ≤ 6000) (m : Nat) : (goodOf S m).length ≤ 6000 := by
  refine Nat.le_trans (List.length_filter_le _ _) ?_
  rw [rules_len ok]
  exact few
theorem ok_cneed {f fG fB : Addr} {fd fdG fdB : FuncData} (F : Fun K "call_needed" "call_needed" sCNeed f fd) (O : Own mg) (T : Txt K mg C) (Z : Nos mg) (G' : Def P w K mg base 9 "good_rules" ["board", "moves"] (spGood P w C) fG fdG) (B' : Def P w K mg base 1 "bits_of" ["numbers"] (spBits K) fB fdB) :
    FnOk P w K mg base CX0 10 f fd ["board", "arguments"] (spCall P w K C NeedP fNeed) := by
  obtain ⟨tk, gO⟩ := Z.none
  refine F.ok scCNeed (fun vs H Q E h => ?_) (fun cdv A outer s H vs Q E hr h => ?_)
  · obtain ⟨b, ar, own, S, as, rfl, _⟩ := h
    rfl
  · refine ⟨_, pss_cons (ps_set (i := 2) scCNeed.nd rfl (Or.inl rfl) (pe_call G'.ok hr rfl G'.g G'.kp G'.b .nil pass0 (pa_cons (pv 0) (pa_cons (pe_fld (pv 0) rfl) pa_nil))))
      (pss_cons (ps_if (pt_cmpR op_eq (pe_callB call_len_seq (by rfl) O.len PySem.boot_len (pa_cons (pv 2) pa_nil)) pe_int (nomark _)) (pss_one (ps_ret (pe_lst (pa_cons (pe_glob (v := .int (-33)) rfl gO ⟨_, rfl⟩) pa_nil)))) pss_nil)
      (pss_one (ps_ret (pe_lst (pa_cons (pe_call B'.ok (hr.mono (by decide)) rfl B'.g B'.kp B'.b .nil pass0 (pa_cons
        (pe_lc (own := [("rule", 3)]) (g := gName 3) (tt := tYes) (te := tOp (rIxT K) (tVar 3) (tOp (rIxL K) (tVar 1) (tC (.int 0)))) rfl scCNeed.nd (pi_list (pv 2)) (blkOk_by (N := nCNeed) (sc := defScope sCNeed) (by decide +kernel))
          (fun _ _ _ _ _ => pg_name (i := 3) scCNeed.nd rfl (Or.inl rfl)) (fun _ _ _ _ _ => pts_nil)
          (fun _ _ _ _ _ => pe_ix ix_tup (pv 3) (pe_ix ix_list (pv 1) pe_int (fun _ _ => rfl)) (fun _ _ => rfl))) pa_nil)) pa_nil))))), ?_⟩
    obtain ⟨b, ar, own, S, as, rfl, B, ok, ha, har, ⟨few, h1, h2, h3⟩, k⟩ := h
    obtain ⟨Y, I, eo⟩ := id B
    subst eo
    have big : (100000 : Nat) < sizeLine := by decide
    have k1 := k
    unfold fNeed at k1
    refine ⟨_, rfl, _, rfl, b, C, Y.dx, Y.fs, _, rfl, I.obj, T.cl, T.nA, I.fa, b, Y, S, S.a, rfl, I, ok, ok.a, few, fun H1 Y1 q1 M kn n1 no1 hq t1 e1 => ?_⟩
    have ml := LT_len e1
    refine ⟨_, rfl, q1, _, rfl, .inl (SqL.of hq), rfl, _, rfl, ?_⟩
    rw [dec_int, refH_len, ml]
    by_cases c : goodOf S S.a = []
    · rw [if_pos c] at k1
      rw [show ((((goodOf S S.a).length : Nat) : Int) == 0) = true by rw [c]; rfl]
      exact iteT ⟨by show 1 ≤ sizeLine; decide, fun q hq => call_kn I kn (same_new hq) hq upd_same k1⟩
    · rw [if_neg c] at k1
      have lp : 0 < (goodOf S S.a).length := List.length_pos_iff.mpr c
      rw [show ((((goodOf S S.a).length : Nat) : Int) == 0) = false from beq_eq_false_iff_ne.mpr (by omega)]
      have ha1 : SqL K H1 ar (as.map V.int) := by
        rcases ha with (z | ⟨o, z⟩) | z
        · exact SqL.of (kn.keep _ _ z (fun e => har (e ▸ in_aK)) (fun e => har (e ▸ in_aQ)))
        · exact .inl (.inr ⟨o, kn.keep _ _ z (fun e => har (e ▸ in_aK)) (fun e => har (e ▸ in_aQ))⟩)
        · exact .inr z
      refine iteF ⟨_, rfl, q1, rfl, ⟨_, SqL.of hq⟩, fun D hD => ?_⟩
      refine lc_list (K := K) (a := q1) (xs := refH M) (fun j H' => H' = upd H1 D (.lst (vN (((goodOf S S.a).take j).map fun r => r.getD (a0 as) 0)))) rfl (fun j H' _ z => by rw [z]; exact (same_new hD).seq (SqL.of hq)) ?_ ?_
      · rintro j x H2 hj rfl
        obtain ⟨r, rj, rfl⟩ := refH_get hj
        have rm := List.mem_of_getElem? rj
        have rg : (goodOf S S.a)[j]? = some r.2 := by rw [← e1]; exact snds_at rj
        have jl := (List.getElem?_eq_some_iff.mp rg).1
        have sN := same_new (o := .lst (vN (((goodOf S S.a).take j).map fun r => r.getD (a0 as) 0))) hD
        have rl : a0 as < r.2.length := by rw [(good_rule ok (List.mem_of_getElem? rg)).1]; exact h3
        have at_ : atI (vN r.2) (a0 as : Int) = some (V.int (r.2.getD (a0 as) 0 : Nat)) := by
          refine atI_nat ?_
          unfold vN
          rw [List.getElem?_map, List.getD_eq_getElem?_getD, List.getElem?_eq_getElem rl]
          rfl
        have gl := good_len ok few S.a
        refine ⟨rfl, _, rfl, _, rfl, ar, _, _, _, rfl, rfl, sN.seq ha1, at_a0 h1 h2, r.1, _, _, _, rfl, rfl, SqT.of (sN _ _ (t1 r rm)), at_, _, upd_same, ?_, ?_⟩
        · rw [vN_len, List.length_map, List.length_take]; omega
        · rw [upd_upd, List.take_succ_eq_append_getElem jl, (List.getElem?_eq_some_iff.mp rg).2]
          unfold vN
          rw [List.map_append, List.map_append]
          rfl
      · rintro H2 rfl
        rw [refH_len, ml, List.take_length]
        refine ⟨D, _, rfl, .inl (SqL.of upd_same), fun i mi => ?_, by show 1 ≤ sizeLine; decide, fun q hq' => ?_⟩
        · obtain ⟨r, mr, rfl⟩ := List.mem_map.mp mi
          have ro := good_rule ok mr
          have rl : a0 as < r.length := by rw [ro.1]; exact h3
          have z := ro.2 (a0 as) (r.getD (a0 as) 0) (by rw [List.getD_eq_getElem?_getD, List.getElem?_eq_getElem rl]; rfl)
          have := most_le (S.views.getD (a0 as) [])
          omega
        · exact call_kn I (kn.same (same_new hD)) (same_new hq') hq' upd_same k1
end
end RF

/-! ## RFCallsH -/
namespace RF
open PySem PySem.Spec PyProof.Rows L2
section
variable {P : Program} {w : World} {K : PySem.W.Frag} {mg : Str → Option Value} {base : Heap} {C : Addr}
/-! ### good_one -/
abbrev sOne : Stmt := top 74
def spOne (P : Program) (w : World) (C : Addr) : Sp := fun vs H Q _ => ∃ (b : Addr) (Y : BP) (S : SB) (i : Nat), vs = [.ref b, .int (i : Nat)] ∧ BoardIn P w C H b Y S ∧ SOk S ∧ rulesUp S.views ≤ 6000 ∧
  (∀ (H' : Hp) (Y' : BP), Knew P w C H b Y S H' Y' → (goodOf S S.a)[i]? = none → Q .non H') ∧
  (∀ (H' : Hp) (Y' : BP) (q : Addr) (r : List Nat), Knew P w C H b Y S H' Y' → q ∉ Y'.own b → H q = none → H' q = some (.lst (vN r)) → (goodOf S S.a)[i]? = some r → Q (.ref q) H')
theorem scOne : FnScope ["board", "number", "good"] ["board", "number"] (defScope sOne) := ⟨rfl, rfl, rfl, by decide +kernel, rfl, by decide +kernel, by decide +kernel⟩
theorem ok_one {f fG : Addr} {fd fdG : FuncData} (F : Fun K "good_one" "good_one" sOne f fd) (O : Own mg) (T : Txt K mg C) (G' : Def P w K mg base 9 "good_rules" ["board", "moves"] (spGood P w C) fG fdG) :
    FnOk P w K mg base CX0 10 f fd ["board", "number"] (spOne P w C) := by
  refine F.ok scOne (fun vs H Q E h => ?_) (fun cdv A outer s H vs Q E hr h => ?_)
  · obtain ⟨b, Y, S, i, rfl, _⟩ := h
    rfl
  · refine ⟨_, pss_cons (ps_set (i := 2) scOne.nd rfl (Or.inl rfl) (pe_call G'.ok hr rfl G'.g G'.kp G'.b .nil pass0 (pa_cons (pv 0) (pa_cons (pe_fld (pv 0) rfl) pa_nil))))
      (pss_one (ps_ret (pe_ifExp (pt_cmpR op_lt (pv 1) (pe_callB call_len_seq (by rfl) O.len PySem.boot_len (pa_cons (pv 2) pa_nil)) (nomark _)) (pe_callTy call_list_of (by rfl) O.list (by decide +kernel) (pa_cons (pe_ix ix_list (pv 2) (pv 1) (fun _ _ => rfl)) pa_nil)) pe_non))), ?_⟩
    obtain ⟨b, Y, S, i, rfl, I, ok, few, kN, kS⟩ := h
    refine ⟨_, rfl, _, rfl, b, C, Y.dx, Y.fs, _, rfl, I.obj, T.cl, T.nA, I.fa, b, Y, S, S.a, rfl, I, ok, ok.a, few, fun H1 Y1 q1 M kn n1 no1 hq t1 e1 => ?_⟩
    have ml := LT_len e1
    refine ⟨_, rfl, _, rfl, q1, _, rfl, .inl (SqL.of hq), _, _, rfl, rfl, _, rfl, ?_⟩
    rw [refH_len, ml]
    by_cases c : i < (goodOf S S.a).length
    · refine ite2 (fun _ => ?_) (fun z => absurd (decide_eq_true (by omega)) z)
      have il : i < M.length := by omega
      have ei : M[i]? = some M[i] := List.getElem?_eq_getElem il
      have at_ : atI (refH M) (i : Int) = some (V.ref M[i].1) := by
        refine atI_nat ?_
        unfold refH
        rw [List.getElem?_map, ei]
        rfl
      have gi : (goodOf S S.a)[i]? = some M[i].2 := by rw [← e1]; exact snds_at ei
      refine ⟨_, rfl, _, rfl, q1, _, _, _, rfl, rfl, SqL.of hq, at_, M[i].1, _, rfl, .inr (SqT.of (t1 _ (List.getElem_mem il))), fun l hl => ?_⟩
      exact kS _ Y1 l _ (kn.same (same_new hl)) (kn.in_.free hl) (kn.fresh I hl) upd_same gi
    · refine ite2 (fun z => absurd (of_decide_eq_true z) (by omega)) (fun _ => ?_)
      exact kN H1 Y1 kn (List.getElem?_eq_none (by omega))
/-! ### call_found, call_nth -/
abbrev sCFound : Stmt := top 75
def tellRule (o : Option (List Nat)) : List Int := match o with
  | none => [-33]
  | some r => (r.length : Int) :: zN r
def fFound (S : SB) (_ : List Int) : SB × List Int := (S, tellRule (goodOf S S.a)[0]?)
theorem scCFound : FnScope ["board", "arguments", "rule"] ["board", "arguments"] (defScope sCFound) := ⟨rfl, rfl, rfl, by decide +kernel, rfl, by decide +kernel, by decide +kernel⟩
theorem good_short {S : SB} (ok : SOk S) {m i : Nat} {r : List Nat} (h : (goodOf S m)[i]? = some r) : r.length < 1000 := by
  rw [(good_rule ok (List.mem_of_getElem? h)).1]
  have := views_len2 ok
  omega
theorem ok_cfound {f fO fC : Addr} {fd fdO fdC : FuncData} (F : Fun K "call_found" "call_found" sCFound f fd) (Z : Nos mg) (N : Def P w K mg base 10 "good_one" ["board", "number"] (spOne P w C) fO fdO) (C' : Def P w K mg base 1 "counted" ["numbers"] spCounted fC fdC) :
    FnOk P w K mg base CX0 11 f fd ["board", "arguments"] (spCall P w K C FewR fFound) := by
  obtain ⟨tk, gO⟩ := Z.none
  refine F.ok scCFound (fun vs H Q E h => ?_) (fun cdv A outer s H vs Q E hr h => ?_)
  · obtain ⟨b, ar, own, S, as, rfl, _⟩ := h
    rfl
  · refine ⟨_, pss_cons (ps_set (i := 2) scCFound.nd rfl (Or.inl rfl) (pe_call N.ok hr rfl N.g N.kp N.b .nil pass0 (pa_cons (pv 0) (pa_cons pe_int pa_nil))))
      (pss_one (ps_ret (pe_ifExp (pt_cmp (pc_isN (pv 2))) (pe_lst (pa_cons (pe_glob (v := .int (-33)) rfl gO ⟨_, rfl⟩) pa_nil)) (pe_call C'.ok (hr.mono (by decide)) rfl C'.g C'.kp C'.b .nil pass0 (pa_cons (pv 2) pa_nil))))), ?_⟩
    obtain ⟨b, ar, own, S, as, rfl, B, ok, ha, har, few, k⟩ := h
    obtain ⟨Y, I, eo⟩ := id B
    subst eo
    have k1 := k
    unfold fFound at k1
    refine ⟨_, rfl, b, Y, S, 0, rfl, I, ok, few, fun H1 Y1 kn no => ?_, fun H1 Y1 q1 r kn nq1 n1 h1 gi => ?_⟩
    · rw [no] at k1
      exact ⟨_, rfl, _, rfl, iteT ⟨by show 1 ≤ sizeLine; decide, fun q hq => call_kn I kn (same_new hq) hq upd_same k1⟩⟩
    · rw [gi] at k1
      refine ⟨_, rfl, _, rfl, iteF ⟨_, rfl, q1, zN r, rfl, by rw [← vN_zN]; exact h1, by unfold zN; rw [List.length_map]; exact good_short ok gi, fun H2 q s2 n2 e2 => ?_⟩⟩
      refine call_kn I kn s2 n2 ?_ k1
      rw [e2]
      unfold tellRule zN
      rw [List.length_map]
abbrev sCNth : Stmt := top 82
def fNth (S : SB) (as : List Int) : SB × List Int := (S, tellRule (goodOf S S.a)[a0 as]?)
def NthP (S : SB) (as : List Int) : Prop := FewR S as ∧ One0 S as
theorem scCNth : FnScope ["board", "arguments", "rule"] ["board", "arguments"] (defScope sCNth) := ⟨rfl, rfl, rfl, by decide +kernel, rfl, by decide +kernel, by decide +kernel⟩
theorem ok_cnth {f fO fC : Addr} {fd fdO fdC : FuncData} (F : Fun K "call_nth" "call_nth" sCNth f fd) (Z : Nos mg) (N : Def P w K mg base 10 "good_one" ["board", "number"] (spOne P w C) fO fdO) (C' : Def P w K mg base 1 "counted" ["numbers"] spCounted fC fdC) :
    FnOk P w K mg base CX0 11 f fd ["board", "arguments"] (spCall P w K C NthP fNth) := by
  obtain ⟨tk, gO⟩ := Z.none
  refine F.ok scCNth (fun vs H Q E h => ?_) (fun cdv A outer s H vs Q E hr h => ?_)
  · obtain ⟨b, ar, own, S, as, rfl, _⟩ := h
    rfl
  · refine ⟨_, pss_cons (ps_set (i := 2) scCNth.nd rfl (Or.inl rfl) (pe_call N.ok hr rfl N.g N.kp N.b .nil pass0 (pa_cons (pv 0) (pa_cons (pe_ix ix_list (pv 1) pe_int (fun _ _ => rfl)) pa_nil))))
      (pss_one (ps_ret (pe_ifExp (pt_cmp (pc_isN (pv 2))) (pe_lst (pa_cons (pe_glob (v := .int (-33)) rfl gO ⟨_, rfl⟩) pa_nil)) (pe_call C'.ok (hr.mono (by decide)) rfl C'.g C'.kp C'.b .nil pass0 (pa_cons (pv 2) pa_nil))))), ?_⟩
    obtain ⟨b, ar, own, S, as, rfl, B, ok, ha, har, ⟨few, h1, h2⟩, k⟩ := h
    obtain ⟨Y, I, eo⟩ := id B
    subst eo
    have k1 := k
    unfold fNth at k1
    refine ⟨_, rfl, _, rfl, ar, _, _, _, rfl, rfl, ha, at_a0 h1 h2, b, Y, S, a0 as, rfl, I, ok, few, fun H1 Y1 kn no => ?_, fun H1 Y1 q1 r kn nq1 n1 hq1 gi => ?_⟩
    · rw [no] at k1
      exact ⟨_, rfl, _, rfl, iteT ⟨by show 1 ≤ sizeLine; decide, fun q hq => call_kn I kn (same_new hq) hq upd_same k1⟩⟩
    · rw [gi] at k1
      refine ⟨_, rfl, _, rfl, iteF ⟨_, rfl, q1, zN r, rfl, by rw [← vN_zN]; exact hq1, by unfold zN; rw [List.length_map]; exact good_short ok gi, fun H2 q s2 n2 e2 => ?_⟩⟩
      refine call_kn I kn s2 n2 ?_ k1
      rw [e2]
      unfold tellRule zN
      rw [List.length_map]
/-! ### call_take -/
abbrev sCTake : Stmt := top 76
def fTake (S : SB) (_ : List Int) : SB × List Int := match (goodOf S S.a)[0]? with
  | none => (S, [-33])
  | some r => ({ S with rule := r }, [0])
theorem scCTake : FnScope ["board", "arguments", "rule"] ["board", "arguments"] (defScope sCTake) := ⟨rfl, rfl, rfl, by decide +kernel, rfl, by decide +kernel, by decide +kernel⟩
theorem ok_ctake {f fO : Addr} {fd fdO : FuncData} (F : Fun K "call_take" "call_take" sCTake f fd) (T : Txt K mg C) (Z : Nos mg) (N : Def P w K mg base 10 "good_one" ["board", "number"] (spOne P w C) fO fdO) :
    FnOk P w K mg base CX0 11 f fd ["board", "arguments"] (spCall P w K C FewR fTake) := by
  obtain ⟨tk, gO⟩ := Z.none
  refine F.ok scCTake (fun vs H Q E h => ?_) (fun cdv A outer s H vs Q E hr h => ?_)
  · obtain ⟨b, ar, own, S, as, rfl, _⟩ := h
    rfl
  · refine ⟨_, pss_cons (ps_set (i := 2) scCTake.nd rfl (Or.inl rfl) (pe_call N.ok hr rfl N.g N.kp N.b .nil pass0 (pa_cons (pv 0) (pa_cons pe_int pa_nil))))
      (pss_cons (ps_if (pt_cmp (pc_isN (pv 2))) (pss_one (ps_ret (pe_lst (pa_cons (pe_glob (v := .int (-33)) rfl gO ⟨_, rfl⟩) pa_nil)))) pss_nil)
      (pss_cons (ps_fld (pv 0) (pv 2) rfl)
      (pss_one (ps_ret (pe_lst (pa_cons pe_int pa_nil)))))), ?_⟩
    obtain ⟨b, ar, own, S, as, rfl, B, ok, ha, har, few, k⟩ := h
    obtain ⟨Y, I, eo⟩ := id B
    subst eo
    have k1 := k
    unfold fTake at k1
    refine ⟨_, rfl, b, Y, S, 0, rfl, I, ok, few, fun H1 Y1 kn no => ?_, fun H1 Y1 q1 r kn nq1 n1 h1 gi => ?_⟩
    · rw [no] at k1
      exact ⟨_, rfl, _, rfl, iteT ⟨by show 1 ≤ sizeLine; decide, fun q hq => call_kn I kn (same_new hq) hq upd_same k1⟩⟩
    · rw [gi] at k1
      have I1 := kn.in_
      have I2 := I1.newRule h1 (fun x mx z => nq1 (z ▸ mx))
      refine ⟨_, rfl, _, rfl, iteF ?_⟩
      refine ⟨_, rfl, _, rfl, b, C, Y1.dx, Y1.fs, rfl, I1.obj, T.cl, T.nR, by have := I1.few; omega, by show 1 ≤ sizeLine; decide, fun q hq => ?_⟩
      have bo : b ∈ Y.own b := by unfold BP.own; simp
      have sub2 : ∀ x ∈ BP.own { Y1 with fs := putF "rule" (.ref q1) Y1.fs, aR := q1 } b, x ∈ Y.own b ∨ H x = none := fun x mx => by
        have c : x = q1 ∨ x ∈ Y1.own b := by
          unfold BP.own BP.lists at mx ⊢
          simp only [List.mem_cons, List.mem_append] at mx ⊢
          rcases mx with h | h | h | h | h | h | h | h | h
          · exact .inr (.inl h)
          · exact .inr (.inr (.inl h))
          · exact .inr (.inr (.inr (.inl h)))
          · exact .inr (.inr (.inr (.inr (.inl h))))
          · exact .inr (.inr (.inr (.inr (.inr (.inl h)))))
          · exact .inl h
          · exact .inr (.inr (.inr (.inr (.inr (.inr (.inr (.inl h)))))))
          · exact .inr (.inr (.inr (.inr (.inr (.inr (.inr (.inr (.inl h))))))))
          · exact .inr (.inr (.inr (.inr (.inr (.inr (.inr (.inr (.inr h))))))))
        rcases c with rfl | c
        · exact .inr n1
        · exact kn.sub x c
      have tr : ∀ x ∈ Y.own b, upd H1 b (.ins C Y1.dx (putF "rule" (.ref q1) Y1.fs)) x ≠ none := still fun x mx e => by
        have z := kn.fresh I e
        obtain ⟨o, eo, _⟩ := I.live x mx
        rw [z] at eo
        cases eo
      exact call_done (own := Y.own b) (ans := [0]) ⟨_, I2, rfl⟩ sub2 (keeps_upd kn.keeps (.inl bo)) tr hq k1
/-! ### call_why -/
abbrev sCWhy : Stmt := top 80
def fWhy (S : SB) (_ : List Int) : SB × List Int := (S, match coreOf S with
  | none => [-6]
  | some f => (f.length : Int) :: zN f)
theorem scCWhy : FnScope ["board", "arguments"] ["board", "arguments"] (defScope sCWhy) := ⟨rfl, rfl, rfl, by decide +kernel, rfl, by decide +kernel, by decide +kernel⟩
theorem ok_cwhy {f fG fF fC : Addr} {fd fdG fdF fdC : FuncData} (F : Fun K "call_why" "call_why" sCWhy f fd) (O : Own mg) (T : Txt K mg C) (Z : Nos mg) (G' : Def P w K mg base 9 "good_rules" ["board", "moves"] (spGood P w C) fG fdG) (F' : Def P w K mg base 9 "fewest_hopeless" ["board"] (spFewest P w C) fF fdF) (C' : Def P w K mg base 1 "counted" ["numbers"] spCounted fC fdC) :
    FnOk P w K mg base CX0 10 f fd ["board", "arguments"] (spCall P w K C FewR fWhy) := by
  obtain ⟨tk, gO⟩ := Z.good
  refine F.ok scCWhy (fun vs H Q E h => ?_) (fun cdv A outer s H vs Q E hr h => ?_)
  · obtain ⟨b, ar, own, S, as, rfl, _⟩ := h
    rfl
  · refine ⟨_, pss_cons (ps_if (pt_cmpR op_gt (pe_callB call_len_seq (by rfl) O.len PySem.boot_len (pa_cons (pe_call G'.ok hr rfl G'.g G'.kp G'.b .nil pass0 (pa_cons (pv 0) (pa_cons (pe_fld (pv 0) rfl) pa_nil))) pa_nil)) pe_int (nomark _)) (pss_one (ps_ret (pe_lst (pa_cons (pe_glob (v := .int (-6)) rfl gO ⟨_, rfl⟩) pa_nil)))) pss_nil)
      (pss_one (ps_ret (pe_call C'.ok (hr.mono (by decide)) rfl C'.g C'.kp C'.b .nil pass0 (pa_cons (pe_call F'.ok hr rfl F'.g F'.kp F'.b .nil pass0 (pa_cons (pv 0) pa_nil)) pa_nil)))), ?_⟩
    obtain ⟨b, ar, own, S, as, rfl, B, ok, ha, har, few, k⟩ := h
    obtain ⟨Y, I, eo⟩ := id B
    subst eo
    have k1 := k
    unfold fWhy at k1
    refine ⟨_, rfl, _, rfl, b, C, Y.dx, Y.fs, _, rfl, I.obj, T.cl, T.nA, I.fa, b, Y, S, S.a, rfl, I, ok, ok.a, few, fun H1 Y1 q1 M kn n1 no1 hq t1 e1 => ?_⟩
    have ml := LT_len e1
    refine ⟨q1, _, rfl, .inl (SqL.of hq), _, _, rfl, rfl, _, rfl, ?_⟩
    rw [refH_len, ml]
    by_cases c : goodOf S S.a = []
    · refine ite2 (fun z => ?_) (fun _ => ?_)
      · rw [c] at z; exact absurd (of_decide_eq_true z) (by decide)
      · refine ⟨_, rfl, b, Y1, S, rfl, kn.in_, ok, few, c, fun H2 Y2 q2 f kn2 h2 co fl => ?_⟩
        rw [co] at k1
        refine ⟨q2, zN f, rfl, by rw [← vN_zN]; exact h2, by unfold zN; rw [List.length_map]; omega, fun H3 q s3 n3 e3 => ?_⟩
        refine call_kn I (kn.trans kn2) s3 n3 ?_ k1
        rw [e3]
        unfold zN
        rw [List.length_map]
    · have lp : 0 < (goodOf S S.a).length := List.length_pos_iff.mpr c
      have co : coreOf S = none := by
        obtain ⟨r, mr⟩ := List.exists_mem_of_ne_nil _ c
        obtain ⟨m1, m2⟩ := List.mem_filter.mp mr
        have e : Km537.allSures S.base S.a = (rulesOf S).map fun r => (r, suresOf S S.a r) := rfl
        exact core_none (p := (r, suresOf S S.a r)) (by rw [e]; exact List.mem_map_of_mem m1) m2
      rw [co] at k1
      refine ite2 (fun _ => ?_) (fun z => absurd (decide_eq_true (by omega)) z)
      exact ⟨by show 1 ≤ sizeLine; decide, fun q hq' => call_kn I kn (same_new hq') hq' upd_same k1⟩
/-! ### call_allat -/
abbrev sCAll : Stmt := top 81
def fAll (S : SB) (_ : List Int) : SB × List Int := (S, [((goodOf S 0).length : Int), ((goodOf S 1).length : Int), ((goodOf S 2).length : Int)])
abbrev nCAll : List Str := ["board", "arguments", "moves"]
theorem scCAll : FnScope nCAll ["board", "arguments"] (defScope sCAll) := ⟨rfl, rfl, rfl, by decide +kernel, rfl, by decide +kernel, by decide +kernel⟩
theorem ok_call {f fG : Addr} {fd fdG : FuncData} (F : Fun K "call_allat" "call_allat" sCAll f fd) (O : Own mg) (G' : Def P w K mg base 9 "good_rules" ["board", "moves"] (spGood P w C) fG fdG) :
    FnOk P w K mg base CX0 10 f fd ["board", "arguments"] (spCall P w K C FewR fAll) := by
  refine F.ok scCAll (fun vs H Q E h => ?_) (fun cdv A outer s H vs Q E hr h => ?_)
  · obtain ⟨b, ar, own, S, as, rfl, _⟩ := h
    rfl
  · refine ⟨_, pss_one (ps_ret (pe_lc (own := [("moves", 2)]) (g := gName 2) (tt := tYes) rfl scCAll.nd (pi_range1 rfl O.range (pa_cons pe_int pa_nil)) (blkOk_by (N := nCAll) (sc := defScope sCAll) (by decide +kernel))
        (fun _ _ _ _ _ => pg_name (i := 2) scCAll.nd rfl (Or.inl rfl)) (fun _ _ _ _ _ => pts_nil)
        (fun _ _ _ _ _ => pe_callB (r := rLenS K) call_lenS (by rfl) O.len PySem.boot_len (pa_cons (pe_call G'.ok hr rfl G'.g G'.kp G'.b .nil pass0 (pa_cons (pv 0) (pa_cons (pv 2) pa_nil))) pa_nil)))), ?_⟩
    obtain ⟨b, ar, own, S, as, rfl, B, ok, ha, har, few, k⟩ := h
    obtain ⟨Y, I, eo⟩ := id B
    subst eo
    have big : (100000 : Nat) < sizeLine := by decide
    refine ⟨3, rfl, by decide, by decide, fun D hD => ?_⟩
    have nD : D ∉ Y.own b := I.free hD
    have sD := same_new (o := .lst []) hD
    refine lc_range (lo := 0) (fun j H' => ∃ Y1, Knew P w C H b Y S H' Y1 ∧ D ∉ Y1.own b ∧ H' D = some (.lst (((List.range j).map fun m => ((goodOf S m).length : Int)).map V.int))) ⟨Y, (Knew.refl I).same sD, nD, upd_same⟩ ?_ ?_
    · rintro j H1 hj ⟨Y1, kn, nD1, h1⟩
      have hj : j < 3 := hj
      have e0 : (0 : Int) + (j : Int) = ((j : Nat) : Int) := Int.zero_add _
      refine ⟨rfl, _, rfl, _, rfl, b, Y1, S, j, by rw [e0]; rfl, kn.in_, ok, by omega, few, fun H2 Y2 q2 M kn2 n2 no2 hq2 t2 e2 => ?_⟩
      have h2 : H2 D = some (.lst (((List.range j).map fun m => ((goodOf S m).length : Int)).map V.int)) := kn2.lst kn.in_ h1
      have nD2 : D ∉ Y2.own b := fun m => by
        rcases kn2.sub D m with z | z
        · exact nD1 z
        · rw [h1] at z; cases z
      refine ⟨q2, _, rfl, .inl (SqL.of hq2), _, h2, ?_, Y2, ?_, nD2, ?_⟩
      · rw [List.length_map, List.length_map, List.length_range]; omega
      · have kk := kn.trans kn2
        exact ⟨kk.in_.off h2 (fun _ z => by cases z) nD2, kk.as_, kk.sub, fun x o e n1 n2' => by
          rw [upd_ne (fun z => by rw [z, hD] at e; cases e)]
          exact kk.keep x o e n1 n2'⟩
      · rw [upd_same, refH_len, LT_len e2, range_snoc, List.map_append]
        rfl
    · rintro H1 ⟨Y1, kn, nD1, h1⟩
      exact k H1 D (Y1.own b) ⟨Y1, kn.in_, rfl⟩ kn.sub kn.keeps h1 hD nD1
end
end RF

/-! ## RFBegin -/
namespace RF
open PySem PySem.Spec PyProof.Rows L2
section
variable {P : Program} {w : World} {K : PySem.W.Frag} {mg : Str → Option Value} {base : Heap} {C : Addr}
/-! ### can_begin -/
abbrev sCan : Stmt := top 85
def spCan : Sp := fun vs H Q _ => ∃ n e k a : Nat, vs = [.int n, .int e, .int k, .int a] ∧ Q (.bl (decide (InSet n e k a))) H
theorem scCan : FnScope ["places", "eyes", "robots", "moves"] ["places", "eyes", "robots", "moves"] (defScope sCan) := ⟨rfl, rfl, rfl, by decide +kernel, rfl, by decide +kernel, by decide +kernel⟩
theorem ok_can {f : Addr} {fd : FuncData} (F : Fun K "can_begin" "can_begin" sCan f fd) : FnOk P w K mg base CX0 1 f fd ["places", "eyes", "robots", "moves"] spCan := by
  refine F.ok scCan (fun vs H Q E h => ?_) (fun cdv A outer s H vs Q E hr h => ?_)
  · obtain ⟨n, e, k, a, rfl, _⟩ := h
    rfl
  · refine ⟨_, pss_one (ps_ret (pe_and (pe_chain op_le op_le pe_int (pv 0) pe_int) (pe_and (pe_cmpR op_le (pv 1) pe_int (nomark _)) (pe_and (pe_chain op_le op_le pe_int (pv 2) pe_int) (pe_one (pe_cmpR op_le (pv 3) pe_int (nomark _))))))), ?_⟩
    obtain ⟨n, e, k, a, rfl, q⟩ := h
    have no : ¬ InSet n e k a → Q (.bl false) H := fun z => by rw [decide_eq_false z] at q; exact q
    refine ⟨_, rfl, _, _, rfl, rfl, _, rfl, ite2 (fun c1 => ⟨_, _, rfl, rfl, _, rfl, ite2 (fun c2 => ?_) (fun c2 => no fun z => c2 (decide_eq_true (by have := z.1.2; omega)))⟩) (fun c1 => ⟨_, rfl, iteF (no fun z => c1 (decide_eq_true (by have := z.1.1; omega)))⟩)⟩
    have n1 := of_decide_eq_true c1
    have n2 := of_decide_eq_true c2
    refine ⟨_, rfl, _, _, rfl, rfl, _, rfl, ite2 (fun c3 => ?_) (fun c3 => no fun z => c3 (decide_eq_true (by have := z.2.1; omega)))⟩
    have e1 := of_decide_eq_true c3
    refine ⟨_, rfl, _, _, rfl, rfl, _, rfl, ite2 (fun c4 => ⟨_, _, rfl, rfl, _, rfl, ite2 (fun c5 => ?_) (fun c5 => no fun z => c5 (decide_eq_true (by have := z.2.2.1.2; omega)))⟩) (fun c4 => ⟨_, rfl, iteF (no fun z => c4 (decide_eq_true (by have := z.2.2.1.1; omega)))⟩)⟩
    have k1 := of_decide_eq_true c4
    have k2 := of_decide_eq_true c5
    refine ⟨_, rfl, _, _, rfl, rfl, ?_⟩
    have ee : decide ((a : Int) ≤ 2) = decide (InSet n e k a) := by
      rw [decide_eq_decide]
      unfold InSet
      omega
    show Q (.bl (decide ((a : Int) ≤ 2))) H
    rw [ee]
    exact q
/-! ### begun -/
abbrev sBegun : Stmt := top 86
def aAt (as : List Int) (j : Nat) : Nat := (as.getD j 0).toNat
theorem at_aAt {as : List Int} {j : Nat} (h : j < as.length) (h0 : ∀ x ∈ as, 0 ≤ x) : atI (as.map V.int) (j : Int) = some (V.int (aAt as j)) := by
  refine atI_nat ?_
  have z : 0 ≤ as[j] := h0 _ (List.getElem_mem h)
  rw [List.getElem?_map, List.getElem?_eq_getElem h]
  unfold aAt
  rw [List.getD_eq_getElem?_getD, List.getElem?_eq_getElem h]
  show some (V.int as[j]) = some (V.int ((as[j].toNat : Nat) : Int))
  rw [Int.toNat_of_nonneg z]
def spBegun (P : Program) (w : World) (K : PySem.W.Frag) (C : Addr) : Sp := fun vs H Q _ => ∃ (ar : Addr) (as : List Int), vs = [.ref ar] ∧ SqL K H ar (as.map V.int) ∧ as.length = 4 ∧ (∀ x ∈ as, 0 ≤ x) ∧
  (¬ InSet (aAt as 0) (aAt as 1) (aAt as 2) (aAt as 3) → Q .non H) ∧
  (InSet (aAt as 0) (aAt as 1) (aAt as 2) (aAt as 3) → ∀ (H' : Hp) (x : Addr) (own : List Addr), Same H H' → Board P w C H' x own (S0 (aAt as 0) (aAt as 1) (aAt as 2) (aAt as 3)) → (∀ y ∈ own, H y = none) → Q (.ref x) H')
theorem scBegun : FnScope ["arguments", "places", "eyes", "robots", "moves"] ["arguments"] (defScope sBegun) := ⟨rfl, rfl, rfl, by decide +kernel, rfl, by decide +kernel, by decide +kernel⟩
theorem ok_begun {f fC fI : Addr} {fd fdC fdI : FuncData} (F : Fun K "begun" "begun" sBegun f fd) (T : Txt K mg C) (N : Def P w K mg base 1 "can_begin" ["places", "eyes", "robots", "moves"] spCan fC fdC)
    (M : Mk K C fI) (I : FnOk P w K mg base CX0 5 fI fdI ["self", "places", "eyes", "robots", "moves"] (spInit P w C)) (bI : Binds K fdI ["self", "places", "eyes", "robots", "moves"] []) : FnOk P w K mg base CX0 7 f fd ["arguments"] (spBegun P w K C) := by
  refine F.ok scBegun (fun vs H Q E h => ?_) (fun cdv A outer s H vs Q E hr h => ?_)
  · obtain ⟨ar, as, rfl, _⟩ := h
    rfl
  · refine ⟨_, pss_cons (ps_set (i := 1) scBegun.nd rfl (Or.inl rfl) (pe_ix ix_list (pv 0) pe_int (fun _ _ => rfl)))
      (pss_cons (ps_set (i := 2) scBegun.nd rfl (Or.inl rfl) (pe_ix ix_list (pv 0) pe_int (fun _ _ => rfl)))
      (pss_cons (ps_set (i := 3) scBegun.nd rfl (Or.inl rfl) (pe_ix ix_list (pv 0) pe_int (fun _ _ => rfl)))
      (pss_cons (ps_set (i := 4) scBegun.nd rfl (Or.inl rfl) (pe_ix ix_list (pv 0) pe_int (fun _ _ => rfl)))
      (pss_cons (ps_if (pt_not (pt_val (pe_call N.ok (hr.mono (by decide)) rfl N.g N.kp N.b .nil pass0 (pa_cons (pv 1) (pa_cons (pv 2) (pa_cons (pv 3) (pa_cons (pv 4) pa_nil))))))) (pss_one (ps_ret pe_non)) pss_nil)
      (pss_one (ps_ret (pe_make M I hr rfl T.gC bI .nil pass0 (pa_cons (pv 1) (pa_cons (pv 2) (pa_cons (pv 3) (pa_cons (pv 4) pa_nil))))))))))), ?_⟩
    obtain ⟨ar, as, rfl, ha, la, h0, kN, kS⟩ := h
    refine ⟨_, rfl, ar, _, _, _, rfl, rfl, ha, at_aAt (j := 0) (by omega) h0, _, rfl, ar, _, _, _, rfl, rfl, ha, at_aAt (j := 1) (by omega) h0, _, rfl, ar, _, _, _, rfl, rfl, ha, at_aAt (j := 2) (by omega) h0, _, rfl, ar, _, _, _, rfl, rfl, ha, at_aAt (j := 3) (by omega) h0, ?_⟩
    refine ⟨_, rfl, _, rfl, _, rfl, _, rfl, _, _, _, _, rfl, _, rfl, ?_⟩
    by_cases c : InSet (aAt as 0) (aAt as 1) (aAt as 2) (aAt as 3)
    · rw [decide_eq_true c]
      refine iteF ⟨_, rfl, _, rfl, _, rfl, _, rfl, fun x dx nx nd ne => ?_⟩
      refine ⟨x, dx, _, _, _, _, rfl, upd_same, c, fun H' own B fr ow => ⟨rfl, ?_⟩⟩
      have off : ∀ {y : Addr} {o : HO}, H y = some o → y ≠ x ∧ y ≠ dx := fun {y o} e => ⟨(fun z => by rw [z, nx] at e; cases e), (fun z => by rw [z, nd] at e; cases e)⟩
      refine kS c H' x own (fun y o e => fr y o (by rw [upd_ne (off e).1, upd_ne (off e).2]; exact e) (off e).1) B fun y m => ?_
      rcases ow y m with rfl | z
      · exact nx
      · cases ey : H y with
        | none => rfl
        | some o =>
          rw [upd_ne (off ey).1, upd_ne (off ey).2, ey] at z
          cases z
    · rw [decide_eq_false c]
      exact iteT (kN c)
end
end RF

/-! ## RFWalk -/
/-! The specification's side of a walk over the calls: of any rest of the list, what is still to be answered. -/
namespace RF
open PyKm537
theorem whole_id (c : List (List Int)) : whole c = c := by
  unfold whole
  split <;> rfl
theorem whole_map (cs : List (List (List Int))) : cs.map whole = cs := by
  have e : whole = id := funext whole_id
  rw [e, List.map_id]
/-- how many numbers follow a call's number -/
def arity (p : Int) : Option Nat := (shape p).map (·.1)
theorem in_25 {p : Int} (h : 0 ≤ p ∧ p ≤ 24) : p ∈ [0, 1, 2, 3, 4, 5, 6, 7, 8, 9, 10, 11, 12, 13, 14, 15, 16, 17, 18, 19, 20, 21, 22, 23, 24] := by
  obtain ⟨n, rfl⟩ := Int.eq_ofNat_of_zero_le h.1
  have hn : n < 25 := by omega
  have : ∀ m, m < 25 → ((m : Nat) : Int) ∈ [(0 : Int), 1, 2, 3, 4, 5, 6, 7, 8, 9, 10, 11, 12, 13, 14, 15, 16, 17, 18, 19, 20, 21, 22, 23, 24] := by decide
  exact this n hn
theorem shape_in {p : Int} {nk : Nat × Nat} (h : shape p = some nk) : 0 ≤ p ∧ p ≤ 24 := by
  by_cases c : 0 ≤ p ∧ p ≤ 24
  · exact c
  · exfalso
    unfold shape at h
    repeat rw [if_neg (by omega)] at h
    cases h
theorem shape_flat {p : Int} {n k : Nat} (h : shape p = some (n, k)) : k = 0 := by
  have all : ∀ q ∈ [(0 : Int), 1, 2, 3, 4, 5, 6, 7, 8, 9, 10, 11, 12, 13, 14, 15, 16, 17, 18, 19, 20, 21, 22, 23, 24], (shape q).all (fun nk => nk.2 == 0) = true := by decide +kernel
  have z := all p (in_25 (shape_in h))
  rw [h] at z
  simpa using z
theorem call_inv {p : Int} {r : List Int} {c : List (List Int)} {t : List Int} (h : PyFlat.call shape (p :: r) = some (c, t)) : ∃ n, arity p = some n ∧ n ≤ r.length ∧ c = [p :: r.take n] ∧ t = r.drop n := by
  simp only [PyFlat.call] at h
  cases e : shape p with
  | none =>
    rw [e] at h
    cases h
  | some nk =>
    obtain ⟨n, k⟩ := nk
    have z := shape_flat e
    subst z
    rw [e] at h
    simp only at h
    split at h
    · cases h
    · next c1 =>
      simp only [PyFlat.rows, Option.some.injEq, Prod.mk.injEq] at h
      obtain ⟨rfl, rfl⟩ := h
      exact ⟨n, by unfold arity; rw [e]; rfl, by omega, rfl, rfl⟩
theorem calls_inv {f : Nat} {p : Int} {r : List Int} {cs : List (List (List Int))} (h : PyFlat.calls shape f (p :: r) = some cs) :
    ∃ f' n cs', arity p = some n ∧ n ≤ r.length ∧ cs = [p :: r.take n] :: cs' ∧ PyFlat.calls shape f' (r.drop n) = some cs' := by
  cases f with
  | zero => cases h
  | succ f =>
    unfold PyFlat.calls at h
    split at h
    · cases h
    · next c t e =>
      split at h
      · cases h
      · next cs' e2 =>
        obtain ⟨n, a1, a2, rfl, rfl⟩ := call_inv e
        exact ⟨f, n, cs', a1, a2, (Option.some.inj h).symm, e2⟩
/-- what is still due of a rest of the list, from a state -/
def Due (st : Km537Neutral.S) (r out : List Int) : Prop := ∃ f cs, PyFlat.calls shape f r = some cs ∧ (∀ c ∈ cs, Km537Neutral.asked1 c = true) ∧ out = PyFlat.told (PyFlat.played Km537Neutral.step st cs)
theorem Due.start {l : List Int} (h : answers_asked l = true) : Due Km537Neutral.start l (answers l) := by
  unfold answers_asked at h
  cases e : PyFlat.calls shape l.length l with
  | none =>
    rw [e] at h
    cases h
  | some raw =>
    rw [e] at h
    simp only [Bool.and_eq_true] at h
    obtain ⟨⟨⟨⟨_, _⟩, _⟩, h4⟩, _⟩ := h
    rw [whole_map] at h4
    unfold Km537Neutral.asked at h4
    simp only [Bool.and_eq_true, List.all_eq_true] at h4
    refine ⟨l.length, raw, e, h4.2.2, ?_⟩
    unfold answers calls
    rw [e]
    simp only [whole_map]
theorem Due.nil {st : Km537Neutral.S} {out : List Int} (h : Due st [] out) : out = [] := by
  obtain ⟨f, cs, e, _, rfl⟩ := h
  have : cs = [] := by
    cases f with
    | zero => exact (Option.some.inj e).symm
    | succ f => exact (Option.some.inj e).symm
  rw [this]
  rfl
theorem Due.cons {st : Km537Neutral.S} {p : Int} {r out : List Int} (h : Due st (p :: r) out) :
    ∃ n, arity p = some n ∧ n ≤ r.length ∧ Km537Neutral.asked1 [p :: r.take n] = true ∧
      ∃ rest, out = ((Km537Neutral.step st [p :: r.take n]).2.length : Int) :: (Km537Neutral.step st [p :: r.take n]).2 ++ rest ∧ Due (Km537Neutral.step st [p :: r.take n]).1 (r.drop n) rest := by
  obtain ⟨f, cs, e, ha, rfl⟩ := h
  obtain ⟨f', n, cs', a1, a2, rfl, e2⟩ := calls_inv e
  refine ⟨n, a1, a2, ha _ List.mem_cons_self, _, ?_, f', cs', e2, fun c m => ha c (List.mem_cons_of_mem _ m), rfl⟩
  rfl
/-- a call's number is 0 to 24 -/
theorem arity_in {p : Int} {n : Nat} (h : arity p = some n) : 0 ≤ p ∧ p ≤ 24 := by
  unfold arity at h
  obtain ⟨nk, e, _⟩ := Option.map_eq_some_iff.mp h
  exact shape_in e
end RF

/-! ## RFLoop -/
namespace RF
open PySem PySem.Spec PyProof.Rows L2
/-! ### one call, as plain data -/
abbrev CallF := SB → Int → List Int → SB × List Int
def turn (f : CallF) (o : Option SB) (p : Int) (as : List Int) : Option SB × List Int :=
  if p = 0 then (if InSet (aAt as 0) (aAt as 1) (aAt as 2) (aAt as 3) then (some (S0 (aAt as 0) (aAt as 1) (aAt as 2) (aAt as 3)), [((S0 (aAt as 0) (aAt as 1) (aAt as 2) (aAt as 3)).views.length : Int)]) else (o, [-22])) else
  match o with
  | none => (none, [-11])
  | some S => (some (f S p as).1, (f S p as).2)
/-- what is shown of the calls as data, apart from Python -/
structure Steps (f : CallF) (pre : SB → Int → List Int → Prop) (rel : Option SB → Km537Neutral.S → Prop) : Prop where
  start : rel none Km537Neutral.start
  turn : ∀ o st p as, rel o st → Km537Neutral.asked1 [p :: as] = true → arity p = some as.length → (turn f o p as).2 = (Km537Neutral.step st [p :: as]).2 ∧ rel (turn f o p as).1 (Km537Neutral.step st [p :: as]).1
  ok : ∀ S st, rel (some S) st → SOk S
  pre : ∀ S st p as, rel (some S) st → Km537Neutral.asked1 [p :: as] = true → arity p = some as.length → p ≠ 0 → pre S p as
theorem nat_of {z : Int} (h : Km537Neutral.natural z = true) : 0 ≤ z := by
  unfold Km537Neutral.natural at h
  rw [Bool.and_eq_true] at h
  exact of_decide_eq_true h.1
theorem asked_nat {p : Int} {as : List Int} (h : Km537Neutral.asked1 [p :: as] = true) : ∀ x ∈ as, 0 ≤ x := by
  unfold Km537Neutral.asked1 at h
  split at h
  all_goals first
    | (next e =>
        injection e with e _
        injection e with _ e
        subst e
        intro x m
        exact nat_of (List.all_eq_true.mp h x m))
    | (next e =>
        injection e with e _
        injection e with _ e
        subst e
        intro x m
        cases m)
    | cases h
/-! ### answer_on's promise -/
def spOn (P : Program) (w : World) (K : PySem.W.Frag) (C : Addr) (pre : SB → Int → List Int → Prop) (f : CallF) : Sp := fun vs H Q _ => ∃ (p : Int) (ar : Addr) (as : List Int), SqL K H ar (as.map V.int) ∧ (0 < p ∧ p ≤ 24) ∧
  ((vs = [.non, .int p, .ref ar] ∧ ∀ (H' : Hp) (q : Addr), Same H H' → H q = none → H' q = some (.lst [.int (-11)]) → Q (.ref q) H') ∨
  (∃ (b : Addr) (own : List Addr) (S : SB), vs = [.ref b, .int p, .ref ar] ∧ Board P w C H b own S ∧ SOk S ∧ ar ∉ own ∧ pre S p as ∧
    ∀ (H' : Hp) (q : Addr) (own' : List Addr), Board P w C H' b own' (f S p as).1 → (∀ x ∈ own', x ∈ own ∨ H x = none) → Keeps H own H' → H' q = some (.lst ((f S p as).2.map V.int)) → H q = none → q ∉ own' → Q (.ref q) H'))
/-- what the top has written for the loop -/
structure Loop (K : PySem.W.Frag) (mg : Str → Option Value) (cA : Addr) : Prop where
  gA : mg "ARGUMENTS" = some (.ref cA)
  args : ∀ H : Hp, SqT K H cA (([4, 1, 0, 1, 0, 1, 1, 1, 1, 0, 0, 0, 2, 0, 0, 0, 0, 0, 0, 0, 1, 0, 0, 1, 0] : List Int).map V.int)
  gB : ∃ t, mg "BEGIN" = some (.int 0 t)
theorem args_at {p : Int} {n : Nat} (h : arity p = some n) : atI (([4, 1, 0, 1, 0, 1, 1, 1, 1, 0, 0, 0, 2, 0, 0, 0, 0, 0, 0, 0, 1, 0, 0, 1, 0] : List Int).map V.int) p = some (V.int (n : Int)) := by
  have all : ∀ q ∈ [(0 : Int), 1, 2, 3, 4, 5, 6, 7, 8, 9, 10, 11, 12, 13, 14, 15, 16, 17, 18, 19, 20, 21, 22, 23, 24], (arity q).map (fun n : Nat => V.int (n : Int)) = atI (([4, 1, 0, 1, 0, 1, 1, 1, 1, 0, 0, 0, 2, 0, 0, 0, 0, 0, 0, 0, 1, 0, 0, 1, 0] : List Int).map V.int) q := by decide +kernel
  have z := all p (in_25 (arity_in h))
  rw [h] at z
  exact z.symm
theorem cut_nat (xs : List V) {i j : Nat} (h1 : i ≤ j) (h2 : j ≤ xs.length) : cutV xs (some (i : Int)) (some (j : Int)) = (xs.drop i).take (j - i) := by
  unfold cutV
  rw [HT.sIx_nat, HT.sIx_nat, Nat.min_eq_left (Nat.le_trans h1 h2), Nat.min_eq_left h2]
end RF

/-! ## RFAns -/
namespace RF
open PySem PySem.Spec PyProof.Rows L2
/-- the local name board: none yet, or the object -/
def BV (P : Program) (w : World) (C : Addr) (bV : V) (H : Hp) (own : List Addr) (o : Option SB) : Prop := (bV = .non ∧ o = none ∧ own = []) ∨ ∃ b S, bV = .ref b ∧ o = some S ∧ Board P w C H b own S ∧ SOk S
theorem BV.same {P : Program} {w : World} {C : Addr} {bV : V} {H H' : Hp} {own : List Addr} {o : Option SB} (B : BV P w C bV H own o) (s : Same H H') : BV P w C bV H' own o := by
  rcases B with h | ⟨b, S, h1, h2, h3, h4⟩
  · exact .inl h
  · exact .inr ⟨b, S, h1, h2, h3.same s, h4⟩
theorem BV.off {P : Program} {w : World} {C : Addr} {bV : V} {H : Hp} {own : List Addr} {o : Option SB} {D : Addr} {xs : List V} {u : HO} (B : BV P w C bV H own o) (hD : H D = some (.lst xs)) (n : D ∉ own) : BV P w C bV (upd H D u) own o := by
  rcases B with h | ⟨b, S, h1, h2, h3, h4⟩
  · exact .inl h
  · refine .inr ⟨b, S, h1, h2, h3.frame (fun x m => upd_ne (fun z => n (z ▸ m))) (fun x vs e => ?_), h4⟩
    rw [upd_ne (ne_kinds e hD (fun z => by cases z))]
    exact e
abbrev sAns : Stmt := top 89
def spAns (K : PySem.W.Frag) : Sp := fun vs H Q _ => ∃ (a : Addr) (ns : List Int), vs = [.ref a] ∧ SqL K H a (ns.map V.int) ∧ ns.length ≤ 200 ∧ PyKm537.answers_asked ns = true ∧
  ∀ (H' : Hp) (p : Addr), H' p = some (.lst ((PyKm537.answers ns).map V.int)) → Q (.ref p) H'
theorem asked_short {ns : List Int} (h : PyKm537.answers_asked ns = true) : (PyKm537.answers ns).length ≤ 10000000 := by
  unfold PyKm537.answers_asked at h
  split at h
  · cases h
  · rw [Bool.and_eq_true] at h
    exact of_decide_eq_true h.2
abbrev nAns : List Str := ["calls", "board", "given", "start", "call", "end", "arguments", "fresh", "answer"]
theorem scAns : FnScope nAns ["calls"] (defScope sAns) := ⟨rfl, rfl, rfl, by decide +kernel, rfl, by decide +kernel, by decide +kernel⟩
section
variable {P : Program} {w : World} {K : PySem.W.Frag} {mg : Str → Option Value} {base : Heap} {C : Addr}
theorem ok_ans {fa fB fO cA : Addr} {fd fdB fdO : FuncData} {kO : Nat} {f : CallF} {pre : SB → Int → List Int → Prop} {rel : Option SB → Km537Neutral.S → Prop} (F : Fun K "answers" "answers" sAns fa fd) (O : Own mg) (T : Txt K mg C) (Z : Nos mg) (Lp : Loop K mg cA) (St : Steps f pre rel)
    (BG : Def P w K mg base 7 "begun" ["arguments"] (spBegun P w K C) fB fdB) (ON : Def P w K mg base kO "answer_on" ["board", "call", "arguments"] (spOn P w K C pre f) fO fdO) (k7 : 7 ≤ kO) : FnOk P w K mg base CX0 (kO + 1) fa fd ["calls"] (spAns K) := by
  obtain ⟨t22, g22⟩ := Z.out
  obtain ⟨t0, g0⟩ := Lp.gB
  refine F.ok scAns (fun vs H Q E h => ?_) (fun cdv A outer s H vs Q E hr h => ?_)
  · obtain ⟨a, ns, rfl, _⟩ := h
    rfl
  · refine ⟨_, pss_cons (ps_set (i := 1) scAns.nd rfl (Or.inl rfl) pe_non)
      (pss_cons (ps_set (i := 2) scAns.nd rfl (Or.inl rfl) (pe_lst pa_nil))
      (pss_cons (ps_set (i := 3) scAns.nd rfl (Or.inl rfl) pe_int)
      (pss_cons (ps_while PassesOwn.never (pt_cmpR op_lt (pv 3) (pe_callB call_len_seq (by rfl) O.len PySem.boot_len (pa_cons (pv 0) pa_nil)) (nomark _))
        (pss_cons (ps_set (i := 4) scAns.nd rfl (Or.inl rfl) (pe_ix ix_list (pv 0) (pv 3) (fun _ _ => rfl)))
        (pss_cons (ps_set (i := 5) scAns.nd rfl (Or.inl rfl) (pe_op op_add (pe_op op_add (pv 3) pe_int) (pe_ix ix_tup (pe_glob (v := .ref cA) rfl Lp.gA rfl) (pv 4) (fun _ _ => rfl))))
        (pss_cons (ps_set (i := 6) scAns.nd rfl (Or.inl rfl) (pe_slice sl_list (pv 0) (po_some (pe_op op_add (pv 3) pe_int)) (po_some (pv 5))))
        (C8.pss_cut (ps_if (pt_cmpR op_eq (pv 4) (pe_glob (v := .int 0) rfl g0 ⟨_, rfl⟩) (nomark _))
            (pss_cons (ps_set (i := 7) scAns.nd rfl (Or.inl rfl) (pe_call BG.ok (hr.mono k7) rfl BG.g BG.kp BG.b .nil pass0 (pa_cons (pv 6) pa_nil)))
            (pss_cons (ps_set (i := 1) scAns.nd rfl (Or.inl rfl) (pe_ifExp (pt_cmp (pc_isN (pv 7))) (pv 1) (pv 7)))
            (pss_one (ps_set (i := 8) scAns.nd rfl (Or.inl rfl) (pe_ifExp (pt_cmp (pc_isN (pv 7))) (pe_lst (pa_cons (pe_glob (v := .int (-22)) rfl g22 ⟨_, rfl⟩) pa_nil))
              (pe_lst (pa_cons (pe_callB call_len_seq (by rfl) O.len PySem.boot_len (pa_cons (pe_fld (pv 7) rfl) pa_nil)) pa_nil)))))))
            (pss_one (ps_set (i := 8) scAns.nd rfl (Or.inl rfl) (pe_call ON.ok hr rfl ON.g ON.kp ON.b .nil pass0 (pa_cons (pv 1) (pa_cons (pv 4) (pa_cons (pv 6) pa_nil)))))))
        (pss_cons (ps_expr (pe_bm PySem.F.plainAttrs_list PySem.F.slot_list_append PySem.F.type_list_append mt_append (pv 2) (pa_cons (pe_callB call_len_seq (by rfl) O.len PySem.boot_len (pa_cons (pv 8) pa_nil)) pa_nil)))
        (pss_cons (ps_expr (pe_bm PySem.F.plainAttrs_list PySem.F.slot_list_extend PySem.F.type_list_extend mt_extend (pv 2) (pa_cons (pv 8) pa_nil)))
        (pss_one (ps_set (i := 3) scAns.nd rfl (Or.inl rfl) (pv 5))))))))))
      (pss_one (ps_ret (pv 2)))))), ?_⟩
    obtain ⟨a, ns, rfl, ha, len, asked, k⟩ := h
    have short := asked_short asked
    have big : (10000000 : Nat) < sizeLine := by decide
    have lm : (ns.map V.int).length = ns.length := List.length_map ..
    refine ⟨Nat.zero_le _, fun D hD => ?_⟩
    refine ⟨fun m σ H' => ∃ (i : Nat) (bV : V) (own : List Addr) (o : Option SB) (st : Km537Neutral.S) (out0 out : List Int) (v4 v5 v6 v7 v8 : Option V), m = ns.length - i ∧ i ≤ ns.length ∧ σ = [some (.ref a), some bV, some (.ref D), some (.int i), v4, v5, v6, v7, v8] ∧
      Same H H' ∧ H' D = some (.lst (out0.map V.int)) ∧ BV P w C bV H' own o ∧ rel o st ∧ Due st (ns.drop i) out ∧ out0 ++ out = PyKm537.answers ns ∧ (∀ x ∈ own, H x = none) ∧ D ∉ own,
      ⟨ns.length - 0, 0, .non, [], none, Km537Neutral.start, [], PyKm537.answers ns, none, none, none, none, none, rfl, Nat.zero_le _, rfl, same_new hD, upd_same, .inl ⟨rfl, rfl, rfl⟩, St.start, Due.start asked, rfl, fun x m => absurd m (by simp), by simp⟩, ?_⟩
    rintro m σ H1 ⟨i, bV, own, o, st, out0, out, v4, v5, v6, v7, v8, rfl, hi, rfl, s1, h1, B, rl, du, eo, fr, nD⟩
    have haL := s1.seq ha
    refine ⟨_, rfl, _, rfl, a, _, rfl, .inl haL, _, _, rfl, rfl, _, rfl, ?_⟩
    rw [lm]
    refine ite2 (fun c => ?_) (fun c => ?_)
    · have c : i < ns.length := by have := of_decide_eq_true c; omega
      have dr : ns.drop i = ns[i] :: ns.drop (i + 1) := List.drop_eq_getElem_cons c
      rw [dr] at du
      obtain ⟨n, ar, nl, as1, rest, er, du2⟩ := du.cons
      have pin := arity_in ar
      have nl' : i + 1 + n ≤ ns.length := by rw [List.length_drop] at nl; omega
      refine ⟨_, fun σ' H' z => z, ?_⟩
      have gi : (ns.map V.int)[i]? = some (V.int ns[i]) := by rw [List.getElem?_map, List.getElem?_eq_getElem c]; rfl
      refine ⟨_, rfl, _, rfl, a, _, _, _, rfl, rfl, haL, atI_nat gi, ?_⟩
      refine ⟨_, rfl, _, _, rfl, rfl, _, rfl, cA, _, _, _, rfl, rfl, Lp.args _, args_at ar, _, _, rfl, rfl, ?_⟩
      refine ⟨_, rfl, _, rfl, _, _, rfl, rfl, _, rfl, _, rfl, _, rfl, a, _, rfl, haL, fun q6 h6 => ?_⟩
      have cut : cutV (ns.map V.int) (some ((i : Int) + 1)) (some ((i : Int) + 1 + (n : Int))) = ((ns.drop (i + 1)).take n).map V.int := by
        have := cut_nat (ns.map V.int) (i := i + 1) (j := i + 1 + n) (by omega) (by rw [lm]; exact nl')
        rw [show ((i + 1 : Nat) : Int) = (i : Int) + 1 by omega, show ((i + 1 + n : Nat) : Int) = (i : Int) + 1 + (n : Int) by omega] at this
        rw [this, ← List.map_drop, ← List.map_take, show i + 1 + n - (i + 1) = n by omega]
      rw [cut]
      generalize hp : ns[i] = p at *
      generalize has : (ns.drop (i + 1)).take n = as at *
      have al : as.length = n := by rw [← has, List.length_take]; omega
      rw [← al] at ar
      have s6 := same_new (o := .lst (as.map V.int)) h6
      have B6 := B.same s6
      obtain ⟨t1, t2⟩ := St.turn o st p as rl as1 ar
      have sA := s1.trans s6
      have n6 : ∀ {x : Addr}, x ∈ own → x ≠ q6 := fun {x} m z => by
        rcases B with ⟨_, _, e⟩ | ⟨b, S, _, _, e, _⟩
        · rw [e] at m; cases m
        · obtain ⟨u, eu⟩ := e.live x m
          rw [z, h6] at eu
          cases eu
      have h6D : upd H1 q6 (.lst (as.map V.int)) D = some (.lst (out0.map V.int)) := s6 _ _ h1
      refine ⟨fun σ' H' => ∃ (bV : V) (own : List Addr) (q : Addr) (v7 : Option V), σ' = [some (.ref a), some bV, some (.ref D), some (.int i), some (.int p), some (.int ((i : Int) + 1 + (n : Int))), some (.ref q6), v7, some (.ref q)] ∧ Same H H' ∧ H' D = some (.lst (out0.map V.int)) ∧
        BV P w C bV H' own (turn f o p as).1 ∧ H' q = some (.lst ((turn f o p as).2.map V.int)) ∧ (∀ x ∈ own, H x = none) ∧ D ∉ own ∧ q ≠ D ∧ q ∉ own, ?_, ?_⟩
      · refine ⟨_, rfl, rfl, _, rfl, ?_⟩
        rw [dec_int]
        by_cases c0 : p = 0
        · subst c0
          have al4 : as.length = 4 := (Option.some.inj ar).symm
          have nat := asked_nat as1
          refine iteT ⟨_, rfl, q6, as, rfl, SqL.of upd_same, al4, nat, fun no => ?_, fun yes H2 x own2 s2 B2 fr2 => ?_⟩
          · refine ⟨_, rfl, _, rfl, iteT ⟨_, rfl, ?_⟩⟩
            refine ⟨_, rfl, _, rfl, iteT ⟨by show 1 ≤ sizeLine; decide, fun q hq => ?_⟩⟩
            have sq := same_new (o := .lst [V.int (-22)]) hq
            have tu : turn f o 0 as = (o, [-22]) := by unfold turn; rw [if_pos rfl, if_neg no]
            refine ⟨bV, own, q, _, rfl, sA.trans sq, sq _ _ h6D, ?_, ?_, fr, nD, fun z => ?_, fun mm => ?_⟩
            · rw [tu]; exact B6.same sq
            · rw [tu]; exact upd_same
            · rw [z, h6D] at hq; cases hq
            · rcases B6 with ⟨_, _, e⟩ | ⟨b, S, _, _, e, _⟩
              · rw [e] at mm; cases mm
              · obtain ⟨u, eu⟩ := e.live q mm
                rw [hq] at eu; cases eu
          · obtain ⟨Y, I2, eo2⟩ := id B2
            refine ⟨_, rfl, _, rfl, iteF ⟨_, rfl, ?_⟩⟩
            refine ⟨_, rfl, _, rfl, iteF ⟨_, rfl, x, C, Y.dx, Y.fs, _, rfl, I2.obj, T.cl, T.nV, I2.fV, Y.aV, _, rfl, .inl (SqL.of I2.hV), by show 1 ≤ sizeLine; decide, fun q hq => ?_⟩⟩
            have sq := same_new (o := .lst [V.int ((refs Y.LV).length : Nat)]) hq
            have tu : turn f o 0 as = (some (S0 (aAt as 0) (aAt as 1) (aAt as 2) (aAt as 3)), [((S0 (aAt as 0) (aAt as 1) (aAt as 2) (aAt as 3)).views.length : Int)]) := by unfold turn; rw [if_pos rfl, if_pos yes]
            have rl2 := t2
            rw [tu] at rl2
            refine ⟨.ref x, own2, q, _, rfl, (sA.trans s2).trans sq, sq _ _ (s2 _ _ h6D), ?_, ?_, fun y m => sA.free (fr2 y m), fun m => ?_, fun z => ?_, fun mm => ?_⟩
            · rw [tu]; exact .inr ⟨x, _, rfl, rfl, B2.same sq, St.ok _ _ rl2⟩
            · rw [tu, upd_same, refs_len, snd_len I2.eV]; rfl
            · have := fr2 D m
              rw [h6D] at this; cases this
            · rw [z, s2 _ _ h6D] at hq; cases hq
            · exact not_own B2 hq mm
        · rw [beq_eq_false_iff_ne.mpr c0]
          have p1 : 0 < p ∧ p ≤ 24 := by omega
          rcases id B6 with ⟨eb, eo1, ew⟩ | ⟨b, S, eb, eS, Bd, ok⟩
          · subst eb eo1 ew
            refine iteF ⟨_, rfl, _, rfl, _, rfl, p, q6, as, SqL.of upd_same, p1, .inl ⟨rfl, fun H2 q s2 n2 e2 => ?_⟩⟩
            have tu : turn f none p as = (none, [-11]) := by unfold turn; rw [if_neg c0]
            refine ⟨.non, [], q, v7, rfl, sA.trans s2, s2 _ _ h6D, ?_, ?_, fun x m => absurd m (by simp), by simp, fun z => ?_, by simp⟩
            · rw [tu]; exact .inl ⟨rfl, rfl, rfl⟩
            · rw [tu]; exact e2
            · rw [z, h6D] at n2; cases n2
          · subst eb eS
            refine iteF ⟨_, rfl, _, rfl, _, rfl, p, q6, as, SqL.of upd_same, p1, .inr ⟨b, own, S, rfl, Bd, ok, fun m => n6 m rfl, St.pre S st p as rl as1 ar c0, fun H2 q own2 B2 sub kp e2 n2 nq => ?_⟩⟩
            have tu : turn f (some S) p as = (some (f S p as).1, (f S p as).2) := by unfold turn; rw [if_neg c0]
            have rl2 := t2
            rw [tu] at rl2
            have fr6 : ∀ x ∈ own2, H x = none := fun x m => by
              rcases sub x m with z | z
              · exact fr x z
              · exact sA.free z
            have D2 : H2 D = some (.lst (out0.map V.int)) := kp _ _ h6D nD
            refine ⟨.ref b, own2, q, v7, rfl, fun x u e => kp x u (sA _ _ e) (fun m => ?_), D2, ?_, ?_, fr6, fun m => ?_, fun z => ?_, nq⟩
            · have := fr x m
              rw [e] at this; cases this
            · rw [tu]; exact .inr ⟨b, _, rfl, rfl, B2, St.ok _ _ rl2⟩
            · rw [tu]; exact e2
            · rcases sub D m with z | z
              · exact nD z
              · rw [h6D] at z; cases z
            · rw [z, h6D] at n2; cases n2
      · rintro σ' H2 ⟨bV2, own2, q, v7', rfl, s2, h2, B2, hq, fr2, nD2, qD, nq⟩
        have tot : out0.length + 1 + (turn f o p as).2.length ≤ (PyKm537.answers ns).length := by
          rw [← eo, er, List.length_append, List.cons_append, List.length_cons, List.length_append, ← t1]
          omega
        refine ⟨_, rfl, .inl ⟨rfl, _, SqL.of h2⟩, _, rfl, q, _, rfl, .inl (SqL.of hq), D, _, _, rfl, rfl, h2, by rw [List.length_map]; omega, ?_⟩
        have hq2 : upd H2 D (.lst (out0.map V.int ++ [V.int (((turn f o p as).2.map V.int).length : Nat)])) q = some (.lst ((turn f o p as).2.map V.int)) := by rw [upd_ne qD]; exact hq
        refine ⟨_, rfl, .inl ⟨rfl, _, SqL.of upd_same⟩, _, rfl, D, q, _, _, rfl, rfl, upd_same, hq2, by rw [List.length_append, List.length_map, List.length_map]; show out0.length + 1 + _ ≤ _; omega, ?_⟩
        refine ⟨_, rfl, ns.length - (i + 1 + n), by omega, i + 1 + n, bV2, own2, (turn f o p as).1, (Km537Neutral.step st [p :: as]).1, out0 ++ (((turn f o p as).2.length : Int) :: (turn f o p as).2), rest, some (.int p), some (.int ((i : Int) + 1 + (n : Int))), some (.ref q6), v7', some (.ref q), rfl, by omega, ?_, ?_, ?_, ?_, t2, ?_, ?_, fr2, nD2⟩
        · show [some (V.ref a), some bV2, some (V.ref D), some (V.int ((i : Int) + 1 + (n : Int))), _, _, _, _, _] = _
          rw [show ((i + 1 + n : Nat) : Int) = (i : Int) + 1 + (n : Int) by omega]
        · rw [upd_upd]; exact same_upd s2 hD
        · rw [upd_same, List.length_map, List.map_append, List.map_cons, List.append_assoc]; rfl
        · rw [upd_upd]; exact B2.off h2 nD2
        · rw [show ns.drop (i + 1 + n) = (ns.drop (i + 1)).drop n by rw [List.drop_drop]]
          exact du2
        · rw [← eo, er, t1, List.append_assoc]
    · have c : i = ns.length := by
        have : ¬ ((i : Int) < (ns.length : Int)) := fun z => c (decide_eq_true z)
        omega
      rw [c, List.drop_length] at du
      rw [du.nil, List.append_nil] at eo
      refine ⟨_, rfl, k H1 D ?_⟩
      rw [h1, eo]
end
end RF

/-! ## RFOn -/
namespace RF
open PySem PySem.Spec PyProof.Rows L2
/-! ### a call of what a subscript gives: whatever keeps a promise -/
def tCallH (P : Program) (w : World) (K : PySem.W.Frag) (mg : Str → Option Value) (base : Heap) (k : Nat) (tf : TE) (t : TA) : TE := fun σ H Q => tf σ H fun v H1 => ∃ f sp, v = .ref f ∧ Held P w K mg base k f sp ∧ t σ H1 fun us H2 => sp us H2 Q E0
theorem pe_callH {X : Cx} {o i e : Expr} {es : List Expr} {p pos : Pos} {tf : TE} {t : TA} {k : Nat} (hf : PE X (.Subscript o i p) tf) (hr : Room k X.A) (ha : PA X (e :: es) t)
    (he : starEach (e :: es) X.env = (false, eval e X.env) :: starEach es X.env := by rfl) (hpl : (backTo pos (starEach es X.env)).any (·.1) = false := by rfl) : PE X (.Call (.Subscript o i p) (e :: es) [] pos) (tCallH X.prog X.w X.K X.mg X.base k tf t) := by
  refine ⟨fun pins s σ H Q I h => ?_⟩
  rw [eval_call_sub]
  refine wpAny_bind (thn (hf.run pins s σ H _ I h) fun u s1 ⟨x, H1, I1, r1, f, sp, ex, hS, q1⟩ => ?_)
  subst ex
  cases r1
  obtain ⟨fd, ps, F, hk, hb⟩ := hS.ex
  refine PySem.W.callWith_K (h₀ := X.base) I1.ok.mod.kin hk (thn (ha.run pos pins s1 σ _ _ I1 q1) fun us s2 ⟨ws, H2, I2, r, q⟩ => ⟨I2.kIn, ?_⟩) he hpl
  refine run_fn (dvs := []) (ds := []) F hr hb .nil pass0 I2 r ?_
  rw [List.append_nil]
  exact q
/-! ### the calls as data -/
def isN (p : Int) : Bool := inV (.int p) (([3, 6, 7, 8] : List Int).map V.int)
def isV (p : Int) : Bool := inV (.int p) (([5, 12, 20] : List Int).map V.int)
def isR (p : Int) : Bool := inV (.int p) (([16, 17, 18, 19, 20, 21, 22, 23] : List Int).map V.int)
def nothing (S : SB) (p : Int) (as : List Int) : Bool := if isN p then decide (S.names.length ≤ a0 as) else if isV p then decide (S.views.length ≤ a0 as) else false
def fC : Nat → SB → List Int → SB × List Int
  | 1 => fAt
  | 2 => fun S _ => (S, [(S.names.length : Int)])
  | 3 => fName
  | 4 => fun S _ => (S, [(S.views.length : Int)])
  | 5 => fView
  | 6 => fWho
  | 7 => fMark
  | 8 => fUn
  | 9 => fApart
  | 10 => fMarks
  | 11 => fRules
  | 12 => fSet
  | 13 => fRule
  | 14 => fGood
  | 15 => fGoods
  | 16 => fFound
  | 17 => fTake
  | 18 => fMany
  | 19 => fBest
  | 20 => fNeed
  | 21 => fWhy
  | 22 => fAll
  | 23 => fNth
  | 24 => fTold
  | _ => fun S _ => (S, [])
def preC : Nat → SB → List Int → Prop
  | 1 => One0
  | 3 => Names0 fun S => S.names.length
  | 5 => Names0 fun S => S.views.length
  | 6 => Names0 fun S => S.names.length
  | 7 => Names0 fun S => S.names.length
  | 8 => Names0 fun S => S.names.length
  | 12 => TwoV
  | 16 => FewR
  | 17 => FewR
  | 18 => FewR
  | 19 => FewR
  | 20 => NeedP
  | 21 => FewR
  | 22 => FewR
  | 23 => NthP
  | _ => fun _ _ => True
def fOn : CallF := fun S p as => if nothing S p as = true then (S, [-2]) else if isR p = true ∧ 6000 < rulesUp S.views then (S, [-28]) else fC p.toNat S as
def preOn (_ : SB) (p : Int) (as : List Int) : Prop := (∀ x ∈ as, 0 ≤ x) ∧ arity p = some as.length
theorem one_of24 {n : Nat} (h : 0 < n) (h2 : n ≤ 24) : n = 1 ∨ n = 2 ∨ n = 3 ∨ n = 4 ∨ n = 5 ∨ n = 6 ∨ n = 7 ∨ n = 8 ∨ n = 9 ∨ n = 10 ∨ n = 11 ∨ n = 12 ∨ n = 13 ∨ n = 14 ∨ n = 15 ∨ n = 16 ∨ n = 17 ∨ n = 18 ∨ n = 19 ∨ n = 20 ∨ n = 21 ∨ n = 22 ∨ n = 23 ∨ n = 24 := by omega
theorem first_nn {as : List Int} (h : ∀ x ∈ as, 0 ≤ x) : 0 ≤ as.getD 0 0 := by
  cases as with
  | nil => exact Int.le_refl _
  | cons x r => exact h x List.mem_cons_self
theorem second_nn {as : List Int} (h : ∀ x ∈ as, 0 ≤ x) : 0 ≤ as.getD 1 0 := by
  match as with
  | [] => exact Int.le_refl _
  | [_] => exact Int.le_refl _
  | _ :: y :: r => exact h y (by simp)
theorem pre_ok {S : SB} {n : Nat} {as : List Int} (h0 : 0 < n) (h24 : n ≤ 24) (pr : preOn S (n : Int) as) (nn : nothing S (n : Int) as = false) (nr : ¬ (isR (n : Int) = true ∧ 6000 < rulesUp S.views)) : preC n S as := by
  obtain ⟨hx, ar⟩ := pr
  have f1 := first_nn hx
  have f2 := second_nn hx
  rcases one_of24 h0 h24 with rfl | rfl | rfl | rfl | rfl | rfl | rfl | rfl | rfl | rfl | rfl | rfl | rfl | rfl | rfl | rfl | rfl | rfl | rfl | rfl | rfl | rfl | rfl | rfl
  all_goals first
    | exact True.intro
    | (have al : as.length = 1 := (Option.some.inj ar).symm
       exact ⟨by omega, f1⟩)
    | (have al : as.length = 1 := (Option.some.inj ar).symm
       have nn : decide (S.names.length ≤ a0 as) = false := nn
       have z := of_decide_eq_false nn
       exact ⟨by omega, f1, by show a0 as < S.names.length; omega⟩)
    | (have al : as.length = 1 := (Option.some.inj ar).symm
       have nn : decide (S.views.length ≤ a0 as) = false := nn
       have z := of_decide_eq_false nn
       exact ⟨by omega, f1, by show a0 as < S.views.length; omega⟩)
    | (have al : as.length = 2 := (Option.some.inj ar).symm
       have nn : decide (S.views.length ≤ a0 as) = false := nn
       have z := of_decide_eq_false nn
       exact ⟨⟨by omega, f1, by show a0 as < S.views.length; omega⟩, by omega, f2⟩)
    | (have z : ¬ 6000 < rulesUp S.views := fun z => nr ⟨rfl, z⟩
       exact Nat.not_lt.mp z)
    | (have z : ¬ 6000 < rulesUp S.views := fun z => nr ⟨rfl, z⟩
       have al : as.length = 1 := (Option.some.inj ar).symm
       have nn : decide (S.views.length ≤ a0 as) = false := nn
       have z2 := of_decide_eq_false nn
       exact ⟨Nat.not_lt.mp z, by omega, f1, by show a0 as < S.views.length; omega⟩)
    | (have z : ¬ 6000 < rulesUp S.views := fun z => nr ⟨rfl, z⟩
       have al : as.length = 1 := (Option.some.inj ar).symm
       exact ⟨Nat.not_lt.mp z, by omega, f1⟩)
/-- what the top has written of tuples -/
structure Sets (K : PySem.W.Frag) (mg : Str → Option Value) (cN cV cR : Addr) : Prop where
  gN : mg "OF_A_NAME" = some (.ref cN)
  tN : ∀ H : Hp, SqT K H cN (([3, 6, 7, 8] : List Int).map V.int)
  gV : mg "OF_A_VIEW" = some (.ref cV)
  tV : ∀ H : Hp, SqT K H cV (([5, 12, 20] : List Int).map V.int)
  gR : mg "OF_ALL_RULES" = some (.ref cR)
  tR : ∀ H : Hp, SqT K H cR (([16, 17, 18, 19, 20, 21, 22, 23] : List Int).map V.int)
/-- the written dict of the calls -/
structure Tab (P : Program) (w : World) (K : PySem.W.Frag) (mg : Str → Option Value) (base : Heap) (C cC : Addr) (vs : List (Key × Value)) : Prop where
  gC : mg "CALLS" = some (.ref cC)
  dict : KInts K P w cC vs
  held : ∀ n : Nat, 0 < n → n ≤ 24 → ∃ f, valueAt vs (Sum.inl (n : Int)) = some (.ref f) ∧ Held P w K mg base 11 f (spCall P w K C (preC n) (fC n))
/-! ### names_nothing -/
abbrev sNoth : Stmt := top 87
def spNoth (P : Program) (w : World) (K : PySem.W.Frag) (C : Addr) : Sp := fun vs H Q _ => ∃ (b ar : Addr) (own : List Addr) (S : SB) (p : Int) (as : List Int), vs = [.ref b, .int p, .ref ar] ∧ Board P w C H b own S ∧ SqL K H ar (as.map V.int) ∧ (isN p = true ∨ isV p = true → 0 < as.length ∧ 0 ≤ as.getD 0 0) ∧ Q (.bl (nothing S p as)) H
theorem scNoth : FnScope ["board", "call", "arguments"] ["board", "call", "arguments"] (defScope sNoth) := ⟨rfl, rfl, rfl, by decide +kernel, rfl, by decide +kernel, by decide +kernel⟩
section
variable {P : Program} {w : World} {K : PySem.W.Frag} {mg : Str → Option Value} {base : Heap} {C : Addr}
theorem ok_noth {f cN cV cR : Addr} {fd : FuncData} (F : Fun K "names_nothing" "names_nothing" sNoth f fd) (O : Own mg) (T : Txt K mg C) (Z : Sets K mg cN cV cR) : FnOk P w K mg base CX0 1 f fd ["board", "call", "arguments"] (spNoth P w K C) := by
  refine F.ok scNoth (fun vs H Q E h => ?_) (fun cdv A outer s H vs Q E hr h => ?_)
  · obtain ⟨b, ar, own, S, p, as, rfl, _⟩ := h
    rfl
  · refine ⟨_, pss_cons (ps_if (pt_cmpR op_in_seq (pv 1) (pe_glob (v := .ref cN) rfl Z.gN rfl) (by rfl)) (pss_one (ps_ret (pe_cmpR op_ge (pe_ix ix_list (pv 2) pe_int (fun _ _ => rfl)) (pe_callB call_len_seq (by rfl) O.len PySem.boot_len (pa_cons (pe_fld (pv 0) rfl) pa_nil)) (nomark _)))) pss_nil)
      (pss_cons (ps_if (pt_cmpR op_in_seq (pv 1) (pe_glob (v := .ref cV) rfl Z.gV rfl) (by rfl)) (pss_one (ps_ret (pe_cmpR op_ge (pe_ix ix_list (pv 2) pe_int (fun _ _ => rfl)) (pe_callB call_len_seq (by rfl) O.len PySem.boot_len (pa_cons (pe_fld (pv 0) rfl) pa_nil)) (nomark _)))) pss_nil)
      (pss_one (ps_ret pe_bl))), ?_⟩
    obtain ⟨b, ar, own, S, p, as, rfl, B, ha, pr, q⟩ := h
    obtain ⟨Y, I, eo⟩ := id B
    unfold nothing at q
    refine ⟨_, rfl, cN, _, rfl, .inr (Z.tN H), rfl, rfl, _, rfl, ?_⟩
    show if isN p = true then _ else _
    cases c : isN p with
    | true =>
      rw [c, if_pos rfl] at q
      obtain ⟨h1, h2⟩ := pr (.inl c)
      refine iteT ⟨_, rfl, ar, _, _, _, rfl, rfl, ha, at_a0 h1 h2, _, rfl, b, C, Y.dx, Y.fs, _, rfl, I.obj, T.cl, T.nN, I.fN, Y.aN, _, rfl, .inl (SqL.of I.hN), _, _, rfl, rfl, ?_⟩
      rw [refs_len, snd_len I.eN]
      have e : decide (((S.names.length : Nat) : Int) ≤ (a0 as : Int)) = decide (S.names.length ≤ a0 as) := by rw [decide_eq_decide]; omega
      show Q (.bl (decide _)) H
      rw [e]
      exact q
    | false =>
      rw [c, if_neg Bool.false_ne_true] at q
      refine iteF ⟨_, rfl, cV, _, rfl, .inr (Z.tV H), rfl, rfl, _, rfl, ?_⟩
      show if isV p = true then _ else _
      cases c2 : isV p with
      | true =>
        rw [c2, if_pos rfl] at q
        obtain ⟨h1, h2⟩ := pr (.inr c2)
        refine iteT ⟨_, rfl, ar, _, _, _, rfl, rfl, ha, at_a0 h1 h2, _, rfl, b, C, Y.dx, Y.fs, _, rfl, I.obj, T.cl, T.nV, I.fV, Y.aV, _, rfl, .inl (SqL.of I.hV), _, _, rfl, rfl, ?_⟩
        rw [refs_len, snd_len I.eV]
        have e : decide (((S.views.length : Nat) : Int) ≤ (a0 as : Int)) = decide (S.views.length ≤ a0 as) := by rw [decide_eq_decide]; omega
        show Q (.bl (decide _)) H
        rw [e]
        exact q
      | false =>
        rw [c2, if_neg Bool.false_ne_true] at q
        exact iteF q
/-! ### answer_on -/
abbrev sOn : Stmt := top 88
theorem scOn : FnScope ["board", "call", "arguments"] ["board", "call", "arguments"] (defScope sOn) := ⟨rfl, rfl, rfl, by decide +kernel, rfl, by decide +kernel, by decide +kernel⟩
theorem sets_one {n : Nat} {as : List Int} (h0 : 0 < n) (h24 : n ≤ 24) (ar : arity (n : Int) = some as.length) (h : isN (n : Int) = true ∨ isV (n : Int) = true) : 0 < as.length := by
  rcases one_of24 h0 h24 with rfl | rfl | rfl | rfl | rfl | rfl | rfl | rfl | rfl | rfl | rfl | rfl | rfl | rfl | rfl | rfl | rfl | rfl | rfl | rfl | rfl | rfl | rfl | rfl
  all_goals first
    | (have al : as.length = 1 := (Option.some.inj ar).symm
       omega)
    | (have al : as.length = 2 := (Option.some.inj ar).symm
       omega)
    | (rcases h with h | h
       · exact absurd h (by decide)
       · exact absurd h (by decide))
theorem ok_on {f fN fH cN cV cR cC : Addr} {fd fdN fdH : FuncData} {vs0 : List (Key × Value)} (F : Fun K "answer_on" "answer_on" sOn f fd) (Z : Sets K mg cN cV cR) (Y' : Nos mg) (N : Def P w K mg base 1 "names_nothing" ["board", "call", "arguments"] (spNoth P w K C) fN fdN) (H' : Def P w K mg base 4 "how_many_rules" ["board"] (spHow P w C) fH fdH) (TB : Tab P w K mg base C cC vs0) :
    FnOk P w K mg base CX0 12 f fd ["board", "call", "arguments"] (spOn P w K C preOn fOn) := by
  obtain ⟨t11, g11⟩ := Y'.early
  obtain ⟨t2, g2⟩ := Y'.no
  obtain ⟨t28, g28⟩ := Y'.many
  obtain ⟨tm, gm⟩ := Y'.most
  refine F.ok scOn (fun vs H Q E h => ?_) (fun cdv A outer s H vs Q E hr h => ?_)
  · obtain ⟨p, ar, as, _, _, h | ⟨b, own, S, h, _⟩⟩ := h
    · rw [h.1]; rfl
    · rw [h]; rfl
  · refine ⟨_, pss_cons (ps_if (pt_cmp (pc_isN (pv 0))) (pss_one (ps_ret (pe_lst (pa_cons (pe_glob (v := .int (-11)) rfl g11 ⟨_, rfl⟩) pa_nil)))) pss_nil)
      (pss_cons (ps_if (pt_val (pe_call N.ok (hr.mono (by decide)) rfl N.g N.kp N.b .nil pass0 (pa_cons (pv 0) (pa_cons (pv 1) (pa_cons (pv 2) pa_nil))))) (pss_one (ps_ret (pe_lst (pa_cons (pe_glob (v := .int (-2)) rfl g2 ⟨_, rfl⟩) pa_nil)))) pss_nil)
      (pss_cons (ps_if (PW.pt (pw_and (pt_cmpR op_in_seq (pv 1) (pe_glob (v := .ref cR) rfl Z.gR rfl) (by rfl)) (pw_and1 (pt_cmpR op_gt (pe_call H'.ok (hr.mono (by decide)) rfl H'.g H'.kp H'.b .nil pass0 (pa_cons (pv 0) pa_nil)) (pe_glob (v := .int 6000) rfl gm ⟨_, rfl⟩) (nomark _))))) (pss_one (ps_ret (pe_lst (pa_cons (pe_glob (v := .int (-28)) rfl g28 ⟨_, rfl⟩) pa_nil)))) pss_nil)
      (pss_one (ps_ret (pe_callH (pe_itemK TB.dict (pe_glob (v := .ref cC) rfl TB.gC rfl) (pv 1) (fun _ _ => rfl)) hr (pa_cons (pv 0) (pa_cons (pv 2) pa_nil))))))), ?_⟩
    obtain ⟨p, ar, as, ha, ⟨p0, p24⟩, h | ⟨b, own, S, rfl, B, ok, har, pr, k⟩⟩ := h
    · obtain ⟨rfl, k⟩ := h
      exact ⟨_, rfl, _, rfl, iteT ⟨by show 1 ≤ sizeLine; decide, fun q hq => k _ q (same_new hq) hq upd_same⟩⟩
    · obtain ⟨n, rfl⟩ := Int.eq_ofNat_of_zero_le (Int.le_of_lt p0)
      have n0 : 0 < n := by omega
      have n24 : n ≤ 24 := by omega
      have k1 := k
      unfold fOn at k1
      refine ⟨_, rfl, _, rfl, iteF ?_⟩
      refine ⟨_, rfl, _, rfl, _, rfl, b, ar, own, S, (n : Int), as, rfl, B, ha, fun z => ⟨sets_one n0 n24 pr.2 z, first_nn pr.1⟩, _, rfl, ?_⟩
      cases c : nothing S (n : Int) as with
      | true =>
        rw [if_pos c] at k1
        exact iteT ⟨by show 1 ≤ sizeLine; decide, fun q hq => call_pure B (same_new hq) hq upd_same k1⟩
      | false =>
        rw [if_neg (by rw [c]; exact Bool.false_ne_true)] at k1
        refine iteF ⟨_, rfl, cR, _, rfl, .inr (Z.tR H), rfl, rfl, _, rfl, ?_⟩
        show if isR (n : Int) = true then _ else _
        obtain ⟨fa, ef, hd⟩ := TB.held n n0 n24
        have last : ∀ H1 : Hp, Same H H1 → ¬ (isR (n : Int) = true ∧ 6000 < rulesUp S.views) → tCallH P w K mg base 11 (tItemK cC vs0 (tC (.ref cC)) (tVar 1)) (tCons (tVar 0) (tCons (tVar 2) tNil)) [some (.ref b), some (.int (n : Int)), some (.ref ar)] H1 Q := fun H1 s1 nr => by
          rw [if_neg nr] at k1
          have k1 : ∀ (H' : Hp) (q : Addr) (own' : List Addr), Board P w C H' b own' (fC n S as).1 → (∀ x ∈ own', x ∈ own ∨ H x = none) → Keeps H own H' → H' q = some (.lst ((fC n S as).2.map V.int)) → H q = none → q ∉ own' → Q (.ref q) H' := k1
          refine ⟨_, rfl, (n : Int), .ref fa, .ref fa, rfl, rfl, ef, rfl, fa, _, rfl, hd, ?_⟩
          refine ⟨_, rfl, _, rfl, b, ar, own, S, as, rfl, B.same s1, ok, s1.seq ha, har, pre_ok n0 n24 pr c nr, fun H2 q own2 B2 sub kp e2 nq nq2 => ?_⟩
          refine k1 H2 q own2 B2 (fun x mx => (sub x mx).elim .inl (fun z => .inr (s1.free z))) (fun x o e n' => kp x o (s1 _ _ e) n') e2 (s1.free nq) nq2
        cases c2 : isR (n : Int) with
        | true =>
          refine iteT ⟨_, rfl, b, own, S, rfl, B, ok, fun H1 s1 => ?_⟩
          refine ⟨_, _, rfl, rfl, _, rfl, ?_⟩
          refine ite2 (fun c3 => ?_) (fun c3 => ?_)
          · have c3 : 6000 < rulesUp S.views := by have := of_decide_eq_true c3; omega
            rw [if_pos ⟨c2, c3⟩] at k1
            exact ⟨by show 1 ≤ sizeLine; decide, fun q hq => call_pure B (s1.trans (same_new hq)) (s1.free hq) upd_same k1⟩
          · have c3 : ¬ 6000 < rulesUp S.views := fun z => c3 (decide_eq_true (by omega))
            exact last H1 s1 fun z => c3 z.2
        | false =>
          exact iteF (iteF (last H (Same.refl _) fun z => by rw [c2] at z; exact Bool.false_ne_true z.1))
end
end RF

/-! ## RFSteps3 -/
/-! The calls of stage 2 as data against the specification's step; all calls put together. -/
namespace RF
section
variable {S : SB}
theorem desk_marks (S : SB) : (desk S).marks = S.marks := rfl
theorem desk_sures (S : SB) (m : Nat) : Km537.allSures (desk S) m = (rulesOf S).map fun r => (r, suresOf S m r) := rfl
theorem good_all (S : SB) (m : Nat) : ((Km537.allSures (desk S) m).filter fun p => Km537.goodFor S.marks p.2) = (goodOf S m).map fun r => (r, suresOf S m r) := by
  rw [desk_sures, List.filter_map]
  rfl
theorem most_is : Km537.MOST = 6000 := rfl
theorem few_is (F : Facts S) (a : Unit → Km537.Ans) : Km537.ifFew (desk S) a = if 6000 < rulesUp S.views then Km537.say (-28) else a () := by
  unfold Km537.ifFew
  rw [rules_eq F, most_is]
theorem st_good (ok : SOk S) : toldOf (Km537.step (some (desk S)) .good) = (some (desk S), [(gainOf S S.rule : Int), (S.ord.length : Int)]) := by
  rw [← ord_len_eq ok]
  rfl
theorem st_goods : toldOf (Km537.step (some (desk S)) .goods) = (some (desk S), ((suresOf S S.a S.rule).length : Int) :: zN (suresOf S S.a S.rule)) := rfl
theorem first_good (S : SB) : Km537.firstGood (desk S) = (goodOf S S.a)[0]? := by
  unfold Km537.firstGood
  show ((Km537.allSures (desk S) S.a).find? fun p => Km537.goodFor S.marks p.2).map (fun p => p.1) = _
  rw [desk_sures, List.find?_map, ← List.head?_eq_getElem?]
  unfold goodOf
  rw [List.head?_filter, Option.map_map]
  have e1 : ((fun p : List Nat × List Nat => Km537.goodFor S.marks p.2) ∘ fun r => (r, suresOf S S.a r)) = isGood S S.a := rfl
  have e2 : ((fun p : List Nat × List Nat => p.1) ∘ fun r : List Nat => (r, suresOf S S.a r)) = id := rfl
  rw [e1, e2, Option.map_id]
  rfl
theorem tell_rule (o : Option (List Nat)) : ((match o with | none => Km537.say (-33) | some r => Km537.tellAll r).num :: (match o with | none => Km537.say (-33) | some r => Km537.tellAll r).nums) = tellRule o := by
  cases o <;> rfl
theorem st_found (F : Facts S) : toldOf (Km537.step (some (desk S)) .found) = (some (desk S), if 6000 < rulesUp S.views then [-28] else tellRule (goodOf S S.a)[0]?) := by
  have e : toldOf (Km537.step (some (desk S)) .found) = (some (desk S), (Km537.ifFew (desk S) fun _ => match Km537.firstGood (desk S) with | none => Km537.say (-33) | some r => Km537.tellAll r).num :: (Km537.ifFew (desk S) fun _ => match Km537.firstGood (desk S) with | none => Km537.say (-33) | some r => Km537.tellAll r).nums) := rfl
  rw [e, few_is F, first_good]
  split
  · rfl
  · rw [tell_rule]
theorem st_take (F : Facts S) : toldOf (Km537.step (some (desk S)) .take) = if 6000 < rulesUp S.views then (some (desk S), [-28]) else match (goodOf S S.a)[0]? with
    | none => (some (desk S), [-33])
    | some r => (some (desk { S with rule := r }), [0]) := by
  have e : toldOf (Km537.step (some (desk S)) .take) = toldOf (if Km537.MOST < Km537.rulesThereAre (desk S) then (some (desk S), Km537.say (-28)) else match Km537.firstGood (desk S) with | none => (some (desk S), Km537.say (-33)) | some r => (some { desk S with rule := r }, Km537.say 0)) := rfl
  rw [e, rules_eq F, most_is, first_good]
  split
  · rfl
  · cases (goodOf S S.a)[0]? <;> rfl
theorem st_many (F : Facts S) : toldOf (Km537.step (some (desk S)) .many) = (some (desk S), if 6000 < rulesUp S.views then [-28] else [((goodOf S S.a).length : Int), (rulesUp S.views : Int)]) := by
  have e : toldOf (Km537.step (some (desk S)) .many) = (some (desk S), (Km537.ifFew (desk S) fun _ => ⟨(((Km537.allSures (desk S) S.a).filter fun p => Km537.goodFor S.marks p.2).length : Int), [(Km537.rulesThereAre (desk S) : Int)]⟩).num :: (Km537.ifFew (desk S) fun _ => ⟨(((Km537.allSures (desk S) S.a).filter fun p => Km537.goodFor S.marks p.2).length : Int), [(Km537.rulesThereAre (desk S) : Int)]⟩).nums) := rfl
  rw [e, few_is F, good_all, rules_eq F, List.length_map]
  split <;> rfl
theorem st_best (F : Facts S) : toldOf (Km537.step (some (desk S)) .best) = (some (desk S), if 6000 < rulesUp S.views then [-28] else ((bestOf S).2 : Int) :: zN (bestOf S).1) := by
  have e : toldOf (Km537.step (some (desk S)) .best) = (some (desk S), (Km537.ifFew (desk S) fun _ => ⟨((bestOf S).2 : Int), Km537.n2i (bestOf S).1⟩).num :: (Km537.ifFew (desk S) fun _ => ⟨((bestOf S).2 : Int), Km537.n2i (bestOf S).1⟩).nums) := rfl
  rw [e, few_is F]
  split <;> rfl
/-- a set of 0, 1, 2, told by bits -/
theorem set_bits (l : List Nat) (h : ∀ x ∈ l, x ≤ 2) : bitsOf l = Km537.setOf ((List.range 3).filter fun m => decide (m ∈ l)) := by
  have e1 : bitsOf l = bitsOf ((List.range 3).filter fun m => decide (m ∈ l)) := bitsOf_eq fun i => by
    rw [List.mem_filter, List.mem_range, decide_eq_true_eq]
    exact ⟨fun z => ⟨by have := h i z; omega, z⟩, fun z => z.2⟩
  rw [e1]
  have e2 : (List.range 3).filter (fun m => decide (m ∈ l)) = (if decide (0 ∈ l) then [0] else []) ++ (if decide (1 ∈ l) then [1] else []) ++ (if decide (2 ∈ l) then [2] else []) := by
    show List.filter _ [0, 1, 2] = _
    rw [List.filter_cons, List.filter_cons, List.filter_cons, List.filter_nil]
    cases decide (0 ∈ l) <;> cases decide (1 ∈ l) <;> cases decide (2 ∈ l) <;> rfl
  rw [e2]
  cases decide (0 ∈ l) <;> cases decide (1 ∈ l) <;> cases decide (2 ∈ l) <;> rfl
theorem st_needed (ok : SOk S) (v : Nat) : toldOf (Km537.step (some (desk S)) (.needed v)) = (some (desk S), if S.views.length ≤ v then [-2] else if 6000 < rulesUp S.views then [-28] else if goodOf S S.a = [] then [-33] else [(bitsOf ((goodOf S S.a).map fun r => r.getD v 0) : Int)]) := by
  have F := ok.facts
  have e : toldOf (Km537.step (some (desk S)) (.needed v)) = (some (desk S), (if (Km537.views (desk S)).length ≤ v then Km537.say (-2) else Km537.ifFew (desk S) fun _ => match (Km537.allSures (desk S) S.a).filter fun p => Km537.goodFor S.marks p.2 with | [] => Km537.say (-33) | l => Km537.say (Km537.setOf ((List.range 3).filter fun m => l.any fun p => p.1.getD v 0 == m) : Nat)).num :: (if (Km537.views (desk S)).length ≤ v then Km537.say (-2) else Km537.ifFew (desk S) fun _ => match (Km537.allSures (desk S) S.a).filter fun p => Km537.goodFor S.marks p.2 with | [] => Km537.say (-33) | l => Km537.say (Km537.setOf ((List.range 3).filter fun m => l.any fun p => p.1.getD v 0 == m) : Nat)).nums) := rfl
  rw [e, few_is F, good_all, ← vlen_eq F]
  by_cases c : S.views.length ≤ v
  · rw [if_pos c, if_pos c]; rfl
  · rw [if_neg c, if_neg c]
    by_cases c2 : 6000 < rulesUp S.views
    · rw [if_pos c2, if_pos c2]; rfl
    · rw [if_neg c2, if_neg c2]
      by_cases c3 : goodOf S S.a = []
      · rw [if_pos c3, c3]; rfl
      · rw [if_neg c3]
        have sb := set_bits ((goodOf S S.a).map fun r => r.getD v 0) fun x mx => by
          obtain ⟨r, mr, rfl⟩ := List.mem_map.mp mx
          have ro := good_rule ok mr
          have rl : v < r.length := by rw [ro.1]; omega
          have z := ro.2 v (r.getD v 0) (by rw [List.getD_eq_getElem?_getD, List.getElem?_eq_getElem rl]; rfl)
          have := most_le (S.views.getD v [])
          omega
        rw [sb]
        have fe : ((List.range 3).filter fun m => decide (m ∈ (goodOf S S.a).map fun r => r.getD v 0)) = (List.range 3).filter fun m => ((goodOf S S.a).map fun r => (r, suresOf S S.a r)).any fun p => p.1.getD v 0 == m := by
          refine List.filter_congr fun m _ => ?_
          rw [Bool.eq_iff_iff, decide_eq_true_eq, List.any_eq_true, List.mem_map]
          constructor
          · rintro ⟨r, mr, rfl⟩
            exact ⟨_, List.mem_map_of_mem mr, beq_self_eq_true _⟩
          · rintro ⟨p, mp, hp⟩
            obtain ⟨r, mr, rfl⟩ := List.mem_map.mp mp
            exact ⟨r, mr, beq_iff_eq.mp hp⟩
        rw [fe]
        obtain ⟨q, L, eL⟩ : ∃ q L, (goodOf S S.a).map (fun r => (r, suresOf S S.a r)) = q :: L := by
          cases hg : goodOf S S.a with
          | nil => exact absurd hg c3
          | cons r R => exact ⟨_, _, rfl⟩
        rw [eL]
        rfl
theorem st_why (F : Facts S) : toldOf (Km537.step (some (desk S)) .why) = (some (desk S), if 6000 < rulesUp S.views then [-28] else match coreOf S with
    | none => [-6]
    | some f => (f.length : Int) :: zN f) := by
  have e : toldOf (Km537.step (some (desk S)) .why) = (some (desk S), (Km537.ifFew (desk S) fun _ => match coreOf S with | none => Km537.say (-6) | some s => Km537.tellAll s).num :: (Km537.ifFew (desk S) fun _ => match coreOf S with | none => Km537.say (-6) | some s => Km537.tellAll s).nums) := rfl
  rw [e, few_is F]
  split
  · rfl
  · cases coreOf S <;> rfl
theorem st_allat (F : Facts S) : toldOf (Km537.step (some (desk S)) .allAt) = (some (desk S), if 6000 < rulesUp S.views then [-28] else [((goodOf S 0).length : Int), ((goodOf S 1).length : Int), ((goodOf S 2).length : Int)]) := by
  have e : toldOf (Km537.step (some (desk S)) .allAt) = (some (desk S), (Km537.ifFew (desk S) fun _ => ⟨(((Km537.allSures (desk S) 0).filter fun p => Km537.goodFor S.marks p.2).length : Int), [(((Km537.allSures (desk S) 1).filter fun p => Km537.goodFor S.marks p.2).length : Int), (((Km537.allSures (desk S) 2).filter fun p => Km537.goodFor S.marks p.2).length : Int)]⟩).num :: (Km537.ifFew (desk S) fun _ => ⟨(((Km537.allSures (desk S) 0).filter fun p => Km537.goodFor S.marks p.2).length : Int), [(((Km537.allSures (desk S) 1).filter fun p => Km537.goodFor S.marks p.2).length : Int), (((Km537.allSures (desk S) 2).filter fun p => Km537.goodFor S.marks p.2).length : Int)]⟩).nums) := rfl
  rw [e, few_is F, good_all, good_all, good_all, List.length_map, List.length_map, List.length_map]
  split <;> rfl
theorem st_nth (F : Facts S) (i : Nat) : toldOf (Km537.step (some (desk S)) (.nth i)) = (some (desk S), if 6000 < rulesUp S.views then [-28] else tellRule (goodOf S S.a)[i]?) := by
  have e : toldOf (Km537.step (some (desk S)) (.nth i)) = (some (desk S), (Km537.ifFew (desk S) fun _ => match ((Km537.allSures (desk S) S.a).filter fun p => Km537.goodFor S.marks p.2)[i]? with | none => Km537.say (-33) | some p => Km537.tellAll p.1).num :: (Km537.ifFew (desk S) fun _ => match ((Km537.allSures (desk S) S.a).filter fun p => Km537.goodFor S.marks p.2)[i]? with | none => Km537.say (-33) | some p => Km537.tellAll p.1).nums) := rfl
  rw [e, few_is F, good_all, List.getElem?_map]
  split
  · rfl
  · cases (goodOf S S.a)[i]? <;> rfl
end
/-! ### all calls -/
/-- the object and the specification's state go along -/
def rel (o : Option SB) (st : Km537Neutral.S) : Prop := st = o.map desk ∧ ∀ S, o = some S → SOk S
theorem two_of {as : List Int} (h : as.length = 2) : ∃ x y, as = [x, y] := by
  match as, h with
  | [x, y], _ => exact ⟨x, y, rfl⟩
theorem turn_of {o : Option SB} {S S' : SB} {p : Int} {as ans : List Int} (hp : p ≠ 0) (ho : o = some S) (h : fOn S p as = (S', ans)) : turn fOn o p as = (some S', ans) := by
  subst ho
  unfold turn
  rw [if_neg hp]
  show (some (fOn S p as).1, (fOn S p as).2) = _
  rw [h]
theorem rel_turn {S S' : SB} {p : Int} {as ans : List Int} {x : Km537.Call} (hp : p ≠ 0) (hc : Km537Neutral.callOf [p :: as] = some x) (hf : fOn S p as = (S', ans)) (hs : toldOf (Km537.step (some (desk S)) x) = (some (desk S'), ans)) (ok : SOk S') :
    (turn fOn (some S) p as).2 = (Km537Neutral.step (some (desk S)) [p :: as]).2 ∧ rel (turn fOn (some S) p as).1 (Km537Neutral.step (some (desk S)) [p :: as]).1 := by
  rw [turn_of hp rfl hf, step_of hc, hs]
  exact ⟨rfl, rfl, fun S1 e => by cases e; exact ok⟩
theorem fOn_plain {S : SB} {p : Int} {as : List Int} (hN : isN p = false) (hV : isV p = false) (hR : isR p = false) : fOn S p as = fC p.toNat S as := by
  unfold fOn nothing
  rw [hN, hV, hR]
  rfl
theorem fOn_name {S : SB} {p : Int} {as : List Int} (hN : isN p = true) (hR : isR p = false) : fOn S p as = if S.names.length ≤ a0 as then (S, [-2]) else fC p.toNat S as := by
  unfold fOn nothing
  rw [hN, hR]
  by_cases c : S.names.length ≤ a0 as
  · rw [if_pos rfl, if_pos (decide_eq_true c), if_pos c]
  · rw [if_pos rfl, if_neg (by rw [decide_eq_false c]; exact Bool.false_ne_true), if_neg c, if_neg (fun z => Bool.false_ne_true z.1)]
theorem fOn_view {S : SB} {p : Int} {as : List Int} (hN : isN p = false) (hV : isV p = true) (hR : isR p = false) : fOn S p as = if S.views.length ≤ a0 as then (S, [-2]) else fC p.toNat S as := by
  unfold fOn nothing
  rw [hN, hV, hR]
  by_cases c : S.views.length ≤ a0 as
  · rw [if_neg Bool.false_ne_true, if_pos rfl, if_pos (decide_eq_true c), if_pos c]
  · rw [if_neg Bool.false_ne_true, if_pos rfl, if_neg (by rw [decide_eq_false c]; exact Bool.false_ne_true), if_neg c, if_neg (fun z => Bool.false_ne_true z.1)]
theorem fOn_rule {S : SB} {p : Int} {as : List Int} (hN : isN p = false) (hV : isV p = false) (hR : isR p = true) : fOn S p as = if 6000 < rulesUp S.views then (S, [-28]) else fC p.toNat S as := by
  unfold fOn nothing
  rw [hN, hV, hR]
  by_cases c : 6000 < rulesUp S.views
  · rw [if_neg Bool.false_ne_true, if_neg Bool.false_ne_true, if_neg Bool.false_ne_true, if_pos ⟨rfl, c⟩, if_pos c]
  · rw [if_neg Bool.false_ne_true, if_neg Bool.false_ne_true, if_neg Bool.false_ne_true, if_neg (fun z => c z.2), if_neg c]
section
variable {S : SB}
theorem ok_good_rule (ok : SOk S) {m i : Nat} {r : List Nat} (h : (goodOf S m)[i]? = some r) : SOk { S with rule := r } := by
  have z := good_rule ok (List.mem_of_getElem? h)
  exact ok_rule ok z.1 z.2
/-- a call that changes nothing: what it answers -/
theorem same_turn (ok : SOk S) {p : Int} {as ans : List Int} {x : Km537.Call} (hp : p ≠ 0) (hc : Km537Neutral.callOf [p :: as] = some x) (hf : fOn S p as = (S, ans)) (hs : toldOf (Km537.step (some (desk S)) x) = (some (desk S), ans)) :
    (turn fOn (some S) p as).2 = (Km537Neutral.step (some (desk S)) [p :: as]).2 ∧ rel (turn fOn (some S) p as).1 (Km537Neutral.step (some (desk S)) [p :: as]).1 := rel_turn hp hc hf hs ok
theorem pair_if {α β : Type} {c : Prop} [Decidable c] (a : α) (x y : β) : (if c then (a, x) else (a, y)) = (a, if c then x else y) := by split <;> rfl
theorem turns (ok : SOk S) {p : Int} {as : List Int} (asked : Km537Neutral.asked1 [p :: as] = true) (ar : arity p = some as.length) (p0 : p ≠ 0) :
    (turn fOn (some S) p as).2 = (Km537Neutral.step (some (desk S)) [p :: as]).2 ∧ rel (turn fOn (some S) p as).1 (Km537Neutral.step (some (desk S)) [p :: as]).1 := by
  have F := ok.facts
  have pin := arity_in ar
  obtain ⟨n, rfl⟩ := Int.eq_ofNat_of_zero_le pin.1
  have n24 : n ≤ 24 := by have := pin.2; omega
  have n0 : 0 < n := Nat.pos_of_ne_zero fun z => p0 (by rw [z]; rfl)
  rcases one_of24 n0 n24 with rfl | rfl | rfl | rfl | rfl | rfl | rfl | rfl | rfl | rfl | rfl | rfl | rfl | rfl | rfl | rfl | rfl | rfl | rfl | rfl | rfl | rfl | rfl | rfl
  · obtain ⟨x, rfl⟩ := List.length_eq_one_iff.mp (Option.some.inj ar).symm
    have hf : fOn S 1 [x] = fAt S [x] := fOn_plain rfl rfl rfl
    have hs := st_at (S := S) x.toNat
    unfold fAt at hf
    have ea : a0 [x] = x.toNat := rfl
    rw [ea] at hf
    by_cases c : 2 < x.toNat
    · rw [if_pos c] at hf hs
      exact rel_turn p0 rfl hf hs ok
    · rw [if_neg c] at hf hs
      exact rel_turn p0 rfl hf hs (ok_at ok c)
  · obtain rfl := List.length_eq_zero_iff.mp (Option.some.inj ar).symm
    exact same_turn ok p0 rfl (fOn_plain rfl rfl rfl) (st_names F)
  · obtain ⟨x, rfl⟩ := List.length_eq_one_iff.mp (Option.some.inj ar).symm
    refine same_turn ok p0 rfl ((fOn_name rfl rfl).trans ?_) (st_name F x.toNat)
    exact pair_if _ _ _
  · obtain rfl := List.length_eq_zero_iff.mp (Option.some.inj ar).symm
    exact same_turn ok p0 rfl (fOn_plain rfl rfl rfl) (st_views F)
  · obtain ⟨x, rfl⟩ := List.length_eq_one_iff.mp (Option.some.inj ar).symm
    refine same_turn ok p0 rfl ((fOn_view rfl rfl rfl).trans ?_) (st_view F x.toNat)
    exact pair_if _ _ _
  · obtain ⟨x, rfl⟩ := List.length_eq_one_iff.mp (Option.some.inj ar).symm
    refine same_turn ok p0 rfl ((fOn_name rfl rfl).trans ?_) (st_who F x.toNat)
    exact pair_if _ _ _
  · obtain ⟨x, rfl⟩ := List.length_eq_one_iff.mp (Option.some.inj ar).symm
    have hf : fOn S 7 [x] = if S.names.length ≤ x.toNat then (S, [-2]) else if x.toNat ∈ S.ord then (S, [-17]) else ({ S with ord := S.ord ++ [x.toNat] }, [((S.ord.length + 1 : Nat) : Int)]) := fOn_name rfl rfl
    have hs := st_mark F ok x.toNat
    by_cases c : S.names.length ≤ x.toNat
    · rw [if_pos c] at hf hs
      exact rel_turn p0 rfl hf hs ok
    · rw [if_neg c] at hf hs
      by_cases c2 : x.toNat ∈ S.ord
      · rw [if_pos c2] at hf hs
        exact rel_turn p0 rfl hf hs ok
      · rw [if_neg c2] at hf hs
        exact rel_turn p0 rfl hf hs (ok_mark ok c c2)
  · obtain ⟨x, rfl⟩ := List.length_eq_one_iff.mp (Option.some.inj ar).symm
    have hf : fOn S 8 [x] = if S.names.length ≤ x.toNat then (S, [-2]) else if x.toNat ∈ S.ord then ({ S with ord := S.ord.filter fun j => decide (j ≠ x.toNat) }, [((S.ord.filter fun j => decide (j ≠ x.toNat)).length : Int)]) else (S, [-6]) := fOn_name rfl rfl
    have hs := st_unmark F ok x.toNat
    by_cases c : S.names.length ≤ x.toNat
    · rw [if_pos c] at hf hs
      exact rel_turn p0 rfl hf hs ok
    · rw [if_neg c] at hf hs
      by_cases c2 : x.toNat ∈ S.ord
      · rw [if_pos c2] at hf hs
        exact rel_turn p0 rfl hf hs (ok_unmark ok _)
      · rw [if_neg c2] at hf hs
        exact rel_turn p0 rfl hf hs ok
  · obtain rfl := List.length_eq_zero_iff.mp (Option.some.inj ar).symm
    exact rel_turn p0 rfl (fOn_plain rfl rfl rfl) (st_apart F) (ok_apartS ok)
  · obtain rfl := List.length_eq_zero_iff.mp (Option.some.inj ar).symm
    exact same_turn ok p0 rfl (fOn_plain rfl rfl rfl) (st_marks ok)
  · obtain rfl := List.length_eq_zero_iff.mp (Option.some.inj ar).symm
    exact same_turn ok p0 rfl (fOn_plain rfl rfl rfl) (st_rules F)
  · obtain ⟨x, y, rfl⟩ := two_of (Option.some.inj ar).symm
    have hf : fOn S 12 [x, y] = if S.views.length ≤ x.toNat then (S, [-2]) else if mostTold (S.views.getD x.toNat []) < y.toNat then (S, [-22]) else ({ S with rule := S.rule.set x.toNat y.toNat }, [(S.rule.getD x.toNat 0 : Int)]) := fOn_view rfl rfl rfl
    have hs := st_set F x.toNat y.toNat
    by_cases c : S.views.length ≤ x.toNat
    · rw [if_pos c] at hf hs
      exact rel_turn p0 rfl hf hs ok
    · rw [if_neg c] at hf hs
      by_cases c2 : mostTold (S.views.getD x.toNat []) < y.toNat
      · rw [if_pos c2] at hf hs
        exact rel_turn p0 rfl hf hs ok
      · rw [if_neg c2] at hf hs
        exact rel_turn p0 rfl hf hs (ok_set ok _ _ c2)
  · obtain rfl := List.length_eq_zero_iff.mp (Option.some.inj ar).symm
    exact same_turn ok p0 rfl (fOn_plain rfl rfl rfl) st_rule
  · obtain rfl := List.length_eq_zero_iff.mp (Option.some.inj ar).symm
    exact same_turn ok p0 rfl (fOn_plain rfl rfl rfl) (st_good ok)
  · obtain rfl := List.length_eq_zero_iff.mp (Option.some.inj ar).symm
    exact same_turn ok p0 rfl (fOn_plain rfl rfl rfl) st_goods
  · obtain rfl := List.length_eq_zero_iff.mp (Option.some.inj ar).symm
    exact same_turn ok p0 rfl ((fOn_rule rfl rfl rfl).trans (pair_if _ _ _)) (st_found F)
  · obtain rfl := List.length_eq_zero_iff.mp (Option.some.inj ar).symm
    have hf : fOn S 17 [] = if 6000 < rulesUp S.views then (S, [-28]) else fTake S [] := fOn_rule rfl rfl rfl
    have hs := st_take F
    by_cases c : 6000 < rulesUp S.views
    · rw [if_pos c] at hf hs
      exact rel_turn p0 rfl hf hs ok
    · rw [if_neg c] at hf hs
      unfold fTake at hf
      cases e : (goodOf S S.a)[0]? with
      | none =>
        rw [e] at hf hs
        exact rel_turn p0 rfl hf hs ok
      | some r =>
        rw [e] at hf hs
        exact rel_turn p0 rfl hf hs (ok_good_rule ok e)
  · obtain rfl := List.length_eq_zero_iff.mp (Option.some.inj ar).symm
    exact same_turn ok p0 rfl ((fOn_rule rfl rfl rfl).trans (pair_if _ _ _)) (st_many F)
  · obtain rfl := List.length_eq_zero_iff.mp (Option.some.inj ar).symm
    exact same_turn ok p0 rfl ((fOn_rule rfl rfl rfl).trans (pair_if _ _ _)) (st_best F)
  · obtain ⟨x, rfl⟩ := List.length_eq_one_iff.mp (Option.some.inj ar).symm
    refine same_turn ok p0 rfl ?_ (st_needed ok x.toNat)
    show (if (decide (S.views.length ≤ x.toNat)) = true then (S, [-2]) else if true = true ∧ 6000 < rulesUp S.views then (S, [-28]) else fNeed S [x]) = _
    by_cases c : S.views.length ≤ x.toNat
    · rw [if_pos (decide_eq_true c), if_pos c]
    · rw [if_neg (by rw [decide_eq_false c]; exact Bool.false_ne_true), if_neg c]
      by_cases c2 : 6000 < rulesUp S.views
      · rw [if_pos ⟨rfl, c2⟩, if_pos c2]
      · rw [if_neg (fun z => c2 z.2), if_neg c2]
        exact pair_if _ _ _
  · obtain rfl := List.length_eq_zero_iff.mp (Option.some.inj ar).symm
    exact same_turn ok p0 rfl ((fOn_rule rfl rfl rfl).trans (pair_if _ _ _)) (st_why F)
  · obtain rfl := List.length_eq_zero_iff.mp (Option.some.inj ar).symm
    exact same_turn ok p0 rfl ((fOn_rule rfl rfl rfl).trans (pair_if _ _ _)) (st_allat F)
  · obtain ⟨x, rfl⟩ := List.length_eq_one_iff.mp (Option.some.inj ar).symm
    exact same_turn ok p0 rfl ((fOn_rule rfl rfl rfl).trans (pair_if _ _ _)) (st_nth F x.toNat)
  · obtain rfl := List.length_eq_zero_iff.mp (Option.some.inj ar).symm
    exact same_turn ok p0 rfl (fOn_plain rfl rfl rfl) (st_told ok)
end
theorem begin_turn {o : Option SB} {st : Km537Neutral.S} {as : List Int} (h : rel o st) (ar : arity 0 = some as.length) :
    (turn fOn o 0 as).2 = (Km537Neutral.step st [0 :: as]).2 ∧ rel (turn fOn o 0 as).1 (Km537Neutral.step st [0 :: as]).1 := by
  have al : as.length = 4 := (Option.some.inj ar).symm
  match as, al with
  | [x, y, z, u], _ =>
    have hs := st_begin st x.toNat y.toNat z.toNat u.toNat
    rw [step_of (st := st) (c := [0, x, y, z, u]) (x := .begin_ x.toNat y.toNat z.toNat u.toNat) rfl, hs]
    have ht : turn fOn o 0 [x, y, z, u] = if InSet x.toNat y.toNat z.toNat u.toNat then (some (S0 x.toNat y.toNat z.toNat u.toNat), [((S0 x.toNat y.toNat z.toNat u.toNat).views.length : Int)]) else (o, [-22]) := rfl
    rw [ht]
    by_cases c : InSet x.toNat y.toNat z.toNat u.toNat
    · rw [if_pos c, if_pos c]
      exact ⟨rfl, rfl, fun S1 e => by cases e; exact ok_S0 c⟩
    · rw [if_neg c, if_neg c]
      exact ⟨rfl, h⟩
theorem early_turn {st : Km537Neutral.S} {p : Int} {as : List Int} (h : rel none st) (ar : arity p = some as.length) (p0 : p ≠ 0) :
    (turn fOn none p as).2 = (Km537Neutral.step st [p :: as]).2 ∧ rel (turn fOn none p as).1 (Km537Neutral.step st [p :: as]).1 := by
  have e : st = none := h.1
  subst e
  have pin := arity_in ar
  obtain ⟨n, rfl⟩ := Int.eq_ofNat_of_zero_le pin.1
  have n24 : n ≤ 24 := by have := pin.2; omega
  have n0 : 0 < n := Nat.pos_of_ne_zero fun z => p0 (by rw [z]; rfl)
  have ht : turn fOn none (n : Int) as = (none, [-11]) := by unfold turn; rw [if_neg p0]
  rw [ht]
  have go : ∀ x : Km537.Call, (∀ n e k a, x ≠ .begin_ n e k a) → Km537Neutral.callOf [(n : Int) :: as] = some x → ([-11] : List Int) = (Km537Neutral.step none [(n : Int) :: as]).2 ∧ rel none (Km537Neutral.step none [(n : Int) :: as]).1 := fun x hx hc => by
    rw [step_of hc, st_early x hx]
    exact ⟨rfl, rfl, fun S1 e => by cases e⟩
  rcases one_of24 n0 n24 with rfl | rfl | rfl | rfl | rfl | rfl | rfl | rfl | rfl | rfl | rfl | rfl | rfl | rfl | rfl | rfl | rfl | rfl | rfl | rfl | rfl | rfl | rfl | rfl
  all_goals first
    | (obtain rfl := List.length_eq_zero_iff.mp (Option.some.inj ar).symm
       exact go _ (fun _ _ _ _ z => by cases z) rfl)
    | (obtain ⟨x, rfl⟩ := List.length_eq_one_iff.mp (Option.some.inj ar).symm
       exact go _ (fun _ _ _ _ z => by cases z) rfl)
    | (obtain ⟨x, y, rfl⟩ := two_of (Option.some.inj ar).symm
       exact go _ (fun _ _ _ _ z => by cases z) rfl)
theorem steps : Steps fOn preOn rel where
  start := ⟨rfl, fun S e => by cases e⟩
  turn := fun o st p as h asked ar => by
    by_cases p0 : p = 0
    · subst p0
      exact begin_turn h ar
    · cases o with
      | none => exact early_turn h ar p0
      | some S =>
        have e : st = some (desk S) := h.1
        subst e
        exact turns (h.2 S rfl) asked ar p0
  ok := fun S st h => h.2 S rfl
  pre := fun S st p as h asked ar p0 => ⟨asked_nat asked, ar⟩
end RF

/-! ## RFEnd -/
/-! What the top has written, one fact a def. -/
namespace RF
open PySem PySem.Spec PyProof.Rows L2
/-- a def of the top, by its name -/
def DefAt (K : PySem.W.Frag) (x : Str) (st : Stmt) (f : Addr) : Prop := PySem.W.nsIn K mainGlobals x = some (some (.ref f)) ∧ ∃ fd, Fun K x x st f fd
theorem def_at {K : PySem.W.Frag} {x : Str} {st : Stmt} {f : Addr} {oc : Value} {od an : Option Addr} {osl : Array (Option Value)} {kV doc pm cdv ct : Value} (a : PySem.W.nsIn K mainGlobals x = some (some (.ref f)))
    (l : K.lookup f = some ⟨oc, od, .func (PySem.W.fnOf x x (defArgs st) (defBody st) (defScope st) .none kV doc pm an cdv ct), osl⟩) (c : PySem.W.codeIn K cdv x = true) (k : PySem.W.keepIn K (.ref f) = true) : DefAt K x st f := ⟨a, _, fun_mk l c k⟩
/-- a whole number of the top -/
def IntAt (K : PySem.W.Frag) (x : Str) (i : Int) : Prop := ∃ t, PySem.W.nsIn K mainGlobals x = some (some (.int i t))
theorem int_at {K : PySem.W.Frag} {x : Str} {i : Int} {v : Value} {t : Tok} (a : PySem.W.nsIn K mainGlobals x = some (some v)) (e : v = .int i t) : IntAt K x i := ⟨t, by rw [← e]; exact a⟩
theorem IntAt.mg {K : PySem.W.Frag} {h : Heap} {mg : Str → Option Value} {x : Str} {i : Int} (a : IntAt K x i) (X : K.In h) (G : h.Ns mainGlobals mg) : ∃ t, mg x = some (.int i t) := by
  obtain ⟨t, a⟩ := a
  exact ⟨t, PySem.W.mg_of X G a⟩
/-- a tuple of whole numbers of the top -/
def readNums : List Value → Option (List Int)
  | [] => some []
  | .int i _ :: r => (readNums r).map (i :: ·)
  | _ :: _ => none
theorem nums_vals : ∀ {us : List Value} {ns : List Int}, readNums us = some ns → Vals (ns.map V.int) us
  | [], _, h => by cases h; exact .nil
  | .int i t :: r, ns, h => by
    obtain ⟨l, e, rfl⟩ := Option.map_eq_some_iff.mp (show (readNums r).map (i :: ·) = some ns from h)
    exact .cons ⟨t, rfl⟩ (nums_vals e)
def TupAt (K : PySem.W.Frag) (x : Str) (c : Addr) (ns : List Int) : Prop := PySem.W.nsIn K mainGlobals x = some (some (.ref c)) ∧ ∀ H : Hp, SqT K H c (ns.map V.int)
theorem tup_at_top {K : PySem.W.Frag} {x : Str} {c : Addr} {ns : List Int} {ob : Obj} {its : Array Value} {n : Nat} (a : PySem.W.nsIn K mainGlobals x = some (some (.ref c))) (l : K.lookup c = some ob) (oc : ob.cls = .type "tuple") (dt : ob.data = .seq its n) (r : readNums its.toList = some ns) (s : ns.length ≤ 1000) : TupAt K x c ns := by
  refine ⟨a, fun H => .inr ⟨_, its, n, l, oc, dt, ?_, nums_vals r⟩⟩
  have z := (nums_vals r).length
  rw [List.length_map] at z
  have e : its.size = its.toList.length := by simp
  have : (1000 : Nat) ≤ sizeLine := by decide
  rw [e, ← z]
  omega

theorem all_mk {P : Program} {w : World} {K : PySem.W.Frag} {h : Heap} {mg : Str → Option Value} {fa f_ans f_init C cC f_row f_les f_even f_name f_more f_names f_seen f_vin f_vof f_apart f_nov f_most f_how f_order f_step f_eager f_some f_whogo f_gone f_rings f_after f_bits f_nums f_reck f_ba f_rest f_sureof f_sureby f_each f_good f_best f_moref f_first f_fewest f_counted f_c1 f_c2 f_c3 f_c4 f_c5 f_c6 f_c7 f_c8 f_c9 f_c10 f_c11 f_c12 f_c13 f_c14 f_c15 f_one f_c16 f_c17 f_c18 f_c19 f_c20 f_c21 f_c22 f_c23 f_c24 f_can f_begun f_noth f_on c_hi c_ar c_on c_ov c_orr : Addr} (X : K.In h) (G : h.Ns mainGlobals mg) (hfa : mg "answers" = some (.ref fa))
    {od an : Option Addr} {osl : Array (Option Value)} {oc kV doc pm cdv ct : Value} {od2 an2 : Option Addr} {osl2 : Array (Option Value)} {oc2 kV2 doc2 pm2 cdv2 ct2 : Value} {es : Array DictEntry} {nn : Nat} {oC : Obj}
    (d_row : DefAt K "row_from" sRow f_row)
    (d_les : DefAt K "lesser_row" sLes f_les)
    (d_even : DefAt K "even_handed" sEven f_even)
    (d_name : DefAt K "name_of" sName f_name)
    (d_more : DefAt K "with_one_place_more" sMore f_more)
    (d_names : DefAt K "names_of" sNames f_names)
    (d_seen : DefAt K "seen" sSeen f_seen)
    (d_vin : DefAt K "views_in" sVin f_vin)
    (d_vof : DefAt K "views_of" sVof f_vof)
    (d_apart : DefAt K "all_apart" sApart f_apart)
    (d_nov : DefAt K "numbers_of_views" sNov f_nov)
    (d_most : DefAt K "most_told" sMost f_most)
    (d_how : DefAt K "how_many_rules" sHow f_how)
    (d_order : DefAt K "rules_in_order" sOrder f_order)
    (d_step : DefAt K "steps_of" sStep f_step)
    (d_eager : DefAt K "eager_robots" sEager f_eager)
    (d_some : DefAt K "some_of" sSome f_some)
    (d_whogo : DefAt K "who_may_go" sWho f_whogo)
    (d_gone : DefAt K "with_one_gone" sGone f_gone)
    (d_rings : DefAt K "rings_after" sRings f_rings)
    (d_after : DefAt K "names_after" sAfter f_after)
    (d_bits : DefAt K "bits_of" sBits f_bits)
    (d_nums : DefAt K "numbers_of" sNums f_nums)
    (d_reck : DefAt K "reckoned_after" sReck f_reck)
    (d_ba : DefAt K "bits_after" sBA f_ba)
    (d_rest : DefAt K "comes_to_rest" sRest f_rest)
    (d_sureof : DefAt K "sure_of" sSureOf f_sureof)
    (d_sureby : DefAt K "sure_by" sSureBy f_sureby)
    (d_each : DefAt K "sure_by_each" sEach f_each)
    (d_good : DefAt K "good_rules" sGood f_good)
    (d_best : DefAt K "best_rule" sBest f_best)
    (d_moref : DefAt K "with_one_more" sMoreF f_moref)
    (d_first : DefAt K "first_hopeless" sFirst f_first)
    (d_fewest : DefAt K "fewest_hopeless" sFewest f_fewest)
    (d_counted : DefAt K "counted" sCounted f_counted)
    (d_c1 : DefAt K "call_at" sCAt f_c1)
    (d_c2 : DefAt K "call_names" sCNames f_c2)
    (d_c3 : DefAt K "call_name" sCName f_c3)
    (d_c4 : DefAt K "call_views" sCViews f_c4)
    (d_c5 : DefAt K "call_view" sCView f_c5)
    (d_c6 : DefAt K "call_who" sCWho f_c6)
    (d_c7 : DefAt K "call_mark" sCMark f_c7)
    (d_c8 : DefAt K "call_unmark" sCUn f_c8)
    (d_c9 : DefAt K "call_markapart" sCApart f_c9)
    (d_c10 : DefAt K "call_marks" sCMarks f_c10)
    (d_c11 : DefAt K "call_rules" sCRules f_c11)
    (d_c12 : DefAt K "call_set" sCSet f_c12)
    (d_c13 : DefAt K "call_rule" sCRule f_c13)
    (d_c14 : DefAt K "call_good" sCGood f_c14)
    (d_c15 : DefAt K "call_goods" sCGoods f_c15)
    (d_one : DefAt K "good_one" sOne f_one)
    (d_c16 : DefAt K "call_found" sCFound f_c16)
    (d_c17 : DefAt K "call_take" sCTake f_c17)
    (d_c18 : DefAt K "call_many" sCMany f_c18)
    (d_c19 : DefAt K "call_best" sCBest f_c19)
    (d_c20 : DefAt K "call_needed" sCNeed f_c20)
    (d_c21 : DefAt K "call_why" sCWhy f_c21)
    (d_c22 : DefAt K "call_allat" sCAll f_c22)
    (d_c23 : DefAt K "call_nth" sCNth f_c23)
    (d_c24 : DefAt K "call_told" sCTold f_c24)
    (d_can : DefAt K "can_begin" sCan f_can)
    (d_begun : DefAt K "begun" sBegun f_begun)
    (d_noth : DefAt K "names_nothing" sNoth f_noth)
    (d_on : DefAt K "answer_on" sOn f_on)
    (a_ans : PySem.W.nsIn K mainGlobals "answers" = some (some (.ref f_ans))) (l_ans : K.lookup f_ans = some ⟨oc2, od2, .func (PySem.W.fnOf "answers" "answers" (defArgs sAns) (defBody sAns) (defScope sAns) .none kV2 doc2 pm2 an2 cdv2 ct2), osl2⟩) (c_ans : PySem.W.codeIn K cdv2 "answers" = true) (k_ans : PySem.W.keepIn K (.ref f_ans) = true)
    (aC : PySem.W.nsIn K mainGlobals "Board" = some (some (.ref C))) (a_init : PySem.W.findIn K (.ref C) "__init__" = some (some (.ref f_init))) (i_init : PySem.W.isFn K (.ref f_init) = true) (l_init : K.lookup f_init = some ⟨oc, od, .func (PySem.W.fnOf "__init__" "Board.__init__" (defArgs sInit) (defBody sInit) (defScope sInit) .none kV doc pm an cdv ct), osl⟩) (c_init : PySem.W.codeIn K cdv "Board.__init__" = true) (k_init : PySem.W.keepIn K (.ref f_init) = true)
    (pg : PySem.W.plainGet K C Str.empty = true) (hd : PySem.W.hasDictIn K C = true) (po : PySem.W.plainOver K C = true) (sa : PySem.W.findIn K (.ref C) "__setattr__" = some (some (.builtin "object.__setattr__"))) (mk : PySem.W.makesIn K C = true) (kc : PySem.W.keepIn K (.ref C) = true)
    (nP : PySem.W.findIn K (.ref C) "places" = some none) (nE : PySem.W.findIn K (.ref C) "eyes" = some none) (nK : PySem.W.findIn K (.ref C) "robots" = some none) (nA : PySem.W.findIn K (.ref C) "moves" = some none) (nN : PySem.W.findIn K (.ref C) "names" = some none) (nV : PySem.W.findIn K (.ref C) "views" = some none) (nH : PySem.W.findIn K (.ref C) "had" = some none) (nM : PySem.W.findIn K (.ref C) "marked" = some none) (nR : PySem.W.findIn K (.ref C) "rule" = some none) (nY : PySem.W.findIn K (.ref C) "known_moves" = some none) (nQ : PySem.W.findIn K (.ref C) "known_sure" = some none)
    (o_len : PySem.W.nsIn K mainGlobals "len" = some none) (o_range : PySem.W.nsIn K mainGlobals "range" = some none) (o_tuple : PySem.W.nsIn K mainGlobals "tuple" = some none) (o_min : PySem.W.nsIn K mainGlobals "min" = some none) (o_max : PySem.W.nsIn K mainGlobals "max" = some none) (o_sum : PySem.W.nsIn K mainGlobals "sum" = some none) (o_sorted : PySem.W.nsIn K mainGlobals "sorted" = some none) (o_list : PySem.W.nsIn K mainGlobals "list" = some none) (o_enumerate : PySem.W.nsIn K mainGlobals "enumerate" = some none) (o_zip : PySem.W.nsIn K mainGlobals "zip" = some none) (o_any : PySem.W.nsIn K mainGlobals "any" = some none)
    (i_ONE_GOES : IntAt K "ONE_GOES" 0) (i_SOME_GO : IntAt K "SOME_GO" 1) (i_TOGETHER : IntAt K "TOGETHER" 0) (i_NO_SUCH : IntAt K "NO_SUCH" (-2)) (i_NOT_MARKED : IntAt K "NOT_MARKED" (-6)) (i_SOME_RULE_IS_GOOD : IntAt K "SOME_RULE_IS_GOOD" (-6)) (i_NOT_BEGUN : IntAt K "NOT_BEGUN" (-11)) (i_MARKED_ALREADY : IntAt K "MARKED_ALREADY" (-17)) (i_OUT_OF_RANGE : IntAt K "OUT_OF_RANGE" (-22)) (i_TOO_MANY_RULES : IntAt K "TOO_MANY_RULES" (-28)) (i_NO_GOOD_RULE : IntAt K "NO_GOOD_RULE" (-33)) (i_MOST_RULES : IntAt K "MOST_RULES" 6000) (i_BEGIN : IntAt K "BEGIN" 0)
    (t_hi : TupAt K "HIGHEST_SEEN" c_hi [3, 2, 1]) (t_ar : TupAt K "ARGUMENTS" c_ar [4, 1, 0, 1, 0, 1, 1, 1, 1, 0, 0, 0, 2, 0, 0, 0, 0, 0, 0, 0, 1, 0, 0, 1, 0]) (t_on : TupAt K "OF_A_NAME" c_on [3, 6, 7, 8]) (t_ov : TupAt K "OF_A_VIEW" c_ov [5, 12, 20]) (t_orr : TupAt K "OF_ALL_RULES" c_orr [16, 17, 18, 19, 20, 21, 22, 23])
    (gC : PySem.W.nsIn K mainGlobals "CALLS" = some (some (.ref cC))) (lC : K.lookup cC = some oC) (eC : oC = ⟨.type "dict", none, .dict es nn, #[]⟩) (loC : (cC == sysModules) = false) (rC : readInts es.toList = some [(Sum.inl 1, .ref f_c1), (Sum.inl 2, .ref f_c2), (Sum.inl 3, .ref f_c3), (Sum.inl 4, .ref f_c4), (Sum.inl 5, .ref f_c5), (Sum.inl 6, .ref f_c6), (Sum.inl 7, .ref f_c7), (Sum.inl 8, .ref f_c8), (Sum.inl 9, .ref f_c9), (Sum.inl 10, .ref f_c10), (Sum.inl 11, .ref f_c11), (Sum.inl 12, .ref f_c12), (Sum.inl 13, .ref f_c13), (Sum.inl 14, .ref f_c14), (Sum.inl 15, .ref f_c15), (Sum.inl 16, .ref f_c16), (Sum.inl 17, .ref f_c17), (Sum.inl 18, .ref f_c18), (Sum.inl 19, .ref f_c19), (Sum.inl 20, .ref f_c20), (Sum.inl 21, .ref f_c21), (Sum.inl 22, .ref f_c22), (Sum.inl 23, .ref f_c23), (Sum.inl 24, .ref f_c24)]) :
    ∃ fd : FuncData, (∀ (s : Shared) (us : List Value), us.length = (["calls"] : List Str).length → BindsTo s fd ⟨us, []⟩ ((["calls"] : List Str).zip us)) ∧ ∀ base : Heap, K.In base → base.Ns mainGlobals mg → FnOk P w K mg base CX0 13 fa fd ["calls"] (spAns K) := by
  have e := hfa.symm.trans (PySem.W.mg_of X G a_ans)
  cases e
  have O : Own mg := ⟨PySem.W.mg_none_of X G o_len, PySem.W.mg_none_of X G o_range, PySem.W.mg_none_of X G o_tuple, PySem.W.mg_none_of X G o_min, PySem.W.mg_none_of X G o_max, PySem.W.mg_none_of X G o_sum, PySem.W.mg_none_of X G o_sorted, PySem.W.mg_none_of X G o_list, PySem.W.mg_none_of X G o_enumerate, PySem.W.mg_none_of X G o_zip, PySem.W.mg_none_of X G o_any⟩
  have T : Txt K mg C := ⟨⟨pg, hd, po, sa⟩, PySem.W.mg_of X G aC, nP, nE, nK, nA, nN, nV, nH, nM, nR, nY, nQ⟩
  have Z : Nos mg := ⟨i_OUT_OF_RANGE.mg X G, i_NO_SUCH.mg X G, i_NOT_MARKED.mg X G, i_MARKED_ALREADY.mg X G, i_NOT_BEGUN.mg X G, i_SOME_RULE_IS_GOOD.mg X G, i_TOO_MANY_RULES.mg X G, i_NO_GOOD_RULE.mg X G, i_MOST_RULES.mg X G⟩
  have KD : Kinds mg := ⟨i_ONE_GOES.mg X G, i_SOME_GO.mg X G, i_TOGETHER.mg X G⟩
  have HI : High K mg c_hi := ⟨PySem.W.mg_of X G t_hi.1, t_hi.2⟩
  have SE : Sets K mg c_on c_ov c_orr := ⟨PySem.W.mg_of X G t_on.1, t_on.2, PySem.W.mg_of X G t_ov.1, t_ov.2, PySem.W.mg_of X G t_orr.1, t_orr.2⟩
  have LP : Loop K mg c_ar := ⟨PySem.W.mg_of X G t_ar.1, t_ar.2, i_BEGIN.mg X G⟩
  have F_ans := fun_mk (st := sAns) l_ans c_ans k_ans
  have F_init := fun_mk (st := sInit) l_init c_init k_init
  have b_init := F_init.binds (ps := ["self", "places", "eyes", "robots", "moves"]) fun _ _ _ _ _ _ us hl => match us, hl with | [_, _, _, _, _], _ => rfl
  obtain ⟨a_row, fd_row, F_row⟩ := d_row
  obtain ⟨a_les, fd_les, F_les⟩ := d_les
  obtain ⟨a_even, fd_even, F_even⟩ := d_even
  obtain ⟨a_name, fd_name, F_name⟩ := d_name
  obtain ⟨a_more, fd_more, F_more⟩ := d_more
  obtain ⟨a_names, fd_names, F_names⟩ := d_names
  obtain ⟨a_seen, fd_seen, F_seen⟩ := d_seen
  obtain ⟨a_vin, fd_vin, F_vin⟩ := d_vin
  obtain ⟨a_vof, fd_vof, F_vof⟩ := d_vof
  obtain ⟨a_apart, fd_apart, F_apart⟩ := d_apart
  obtain ⟨a_nov, fd_nov, F_nov⟩ := d_nov
  obtain ⟨a_most, fd_most, F_most⟩ := d_most
  obtain ⟨a_how, fd_how, F_how⟩ := d_how
  obtain ⟨a_order, fd_order, F_order⟩ := d_order
  obtain ⟨a_step, fd_step, F_step⟩ := d_step
  obtain ⟨a_eager, fd_eager, F_eager⟩ := d_eager
  obtain ⟨a_some, fd_some, F_some⟩ := d_some
  obtain ⟨a_whogo, fd_whogo, F_whogo⟩ := d_whogo
  obtain ⟨a_gone, fd_gone, F_gone⟩ := d_gone
  obtain ⟨a_rings, fd_rings, F_rings⟩ := d_rings
  obtain ⟨a_after, fd_after, F_after⟩ := d_after
  obtain ⟨a_bits, fd_bits, F_bits⟩ := d_bits
  obtain ⟨a_nums, fd_nums, F_nums⟩ := d_nums
  obtain ⟨a_reck, fd_reck, F_reck⟩ := d_reck
  obtain ⟨a_ba, fd_ba, F_ba⟩ := d_ba
  obtain ⟨a_rest, fd_rest, F_rest⟩ := d_rest
  obtain ⟨a_sureof, fd_sureof, F_sureof⟩ := d_sureof
  obtain ⟨a_sureby, fd_sureby, F_sureby⟩ := d_sureby
  obtain ⟨a_each, fd_each, F_each⟩ := d_each
  obtain ⟨a_good, fd_good, F_good⟩ := d_good
  obtain ⟨a_best, fd_best, F_best⟩ := d_best
  obtain ⟨a_moref, fd_moref, F_moref⟩ := d_moref
  obtain ⟨a_first, fd_first, F_first⟩ := d_first
  obtain ⟨a_fewest, fd_fewest, F_fewest⟩ := d_fewest
  obtain ⟨a_counted, fd_counted, F_counted⟩ := d_counted
  obtain ⟨a_c1, fd_c1, F_c1⟩ := d_c1
  obtain ⟨a_c2, fd_c2, F_c2⟩ := d_c2
  obtain ⟨a_c3, fd_c3, F_c3⟩ := d_c3
  obtain ⟨a_c4, fd_c4, F_c4⟩ := d_c4
  obtain ⟨a_c5, fd_c5, F_c5⟩ := d_c5
  obtain ⟨a_c6, fd_c6, F_c6⟩ := d_c6
  obtain ⟨a_c7, fd_c7, F_c7⟩ := d_c7
  obtain ⟨a_c8, fd_c8, F_c8⟩ := d_c8
  obtain ⟨a_c9, fd_c9, F_c9⟩ := d_c9
  obtain ⟨a_c10, fd_c10, F_c10⟩ := d_c10
  obtain ⟨a_c11, fd_c11, F_c11⟩ := d_c11
  obtain ⟨a_c12, fd_c12, F_c12⟩ := d_c12
  obtain ⟨a_c13, fd_c13, F_c13⟩ := d_c13
  obtain ⟨a_c14, fd_c14, F_c14⟩ := d_c14
  obtain ⟨a_c15, fd_c15, F_c15⟩ := d_c15
  obtain ⟨a_one, fd_one, F_one⟩ := d_one
  obtain ⟨a_c16, fd_c16, F_c16⟩ := d_c16
  obtain ⟨a_c17, fd_c17, F_c17⟩ := d_c17
  obtain ⟨a_c18, fd_c18, F_c18⟩ := d_c18
  obtain ⟨a_c19, fd_c19, F_c19⟩ := d_c19
  obtain ⟨a_c20, fd_c20, F_c20⟩ := d_c20
  obtain ⟨a_c21, fd_c21, F_c21⟩ := d_c21
  obtain ⟨a_c22, fd_c22, F_c22⟩ := d_c22
  obtain ⟨a_c23, fd_c23, F_c23⟩ := d_c23
  obtain ⟨a_c24, fd_c24, F_c24⟩ := d_c24
  obtain ⟨a_can, fd_can, F_can⟩ := d_can
  obtain ⟨a_begun, fd_begun, F_begun⟩ := d_begun
  obtain ⟨a_noth, fd_noth, F_noth⟩ := d_noth
  obtain ⟨a_on, fd_on, F_on⟩ := d_on
  have KI : KInts K P w cC _ := kints_of (eC ▸ lC) loC rC (by show ([Sum.inl 1, Sum.inl 2, Sum.inl 3, Sum.inl 4, Sum.inl 5, Sum.inl 6, Sum.inl 7, Sum.inl 8, Sum.inl 9, Sum.inl 10, Sum.inl 11, Sum.inl 12, Sum.inl 13, Sum.inl 14, Sum.inl 15, Sum.inl 16, Sum.inl 17, Sum.inl 18, Sum.inl 19, Sum.inl 20, Sum.inl 21, Sum.inl 22, Sum.inl 23, Sum.inl 24] : List Key).Nodup; decide +kernel)
  refine ⟨PySem.W.fnOf "answers" "answers" (defArgs sAns) (defBody sAns) (defScope sAns) .none kV2 doc2 pm2 an2 cdv2 ct2, fun s us hu => match us, hu with | [_], _ => .of_eq rfl, fun base _ _ => ?_⟩
  have D_row : Def P w K mg base _ "row_from" ["ring", "place", "step"] _ f_row fd_row := ⟨ok_row F_row O, PySem.W.mg_of X G a_row, F_row.kp, F_row.binds (ps := ["ring", "place", "step"]) fun _ _ _ _ _ _ us hl => match us, hl with | [_, _, _], _ => rfl⟩
  have D_les : Def P w K mg base _ "lesser_row" ["ring", "place"] _ f_les fd_les := ⟨ok_les F_les O D_row, PySem.W.mg_of X G a_les, F_les.kp, F_les.binds (ps := ["ring", "place"]) fun _ _ _ _ _ _ us hl => match us, hl with | [_, _], _ => rfl⟩
  have D_even : Def P w K mg base _ "even_handed" ["row"] _ f_even fd_even := ⟨ok_even F_even D_row, PySem.W.mg_of X G a_even, F_even.kp, F_even.binds (ps := ["row"]) fun _ _ _ _ _ _ us hl => match us, hl with | [_], _ => rfl⟩
  have D_name : Def P w K mg base _ "name_of" ["ring"] _ f_name fd_name := ⟨ok_name F_name O D_les, PySem.W.mg_of X G a_name, F_name.kp, F_name.binds (ps := ["ring"]) fun _ _ _ _ _ _ us hl => match us, hl with | [_], _ => rfl⟩
  have D_more : Def P w K mg base _ "with_one_place_more" ["rows", "robots"] _ f_more fd_more := ⟨ok_more F_more O, PySem.W.mg_of X G a_more, F_more.kp, F_more.binds (ps := ["rows", "robots"]) fun _ _ _ _ _ _ us hl => match us, hl with | [_, _], _ => rfl⟩
  have D_names : Def P w K mg base _ "names_of" ["places", "robots"] _ f_names fd_names := ⟨ok_names F_names O D_more D_name, PySem.W.mg_of X G a_names, F_names.kp, F_names.binds (ps := ["places", "robots"]) fun _ _ _ _ _ _ us hl => match us, hl with | [_, _], _ => rfl⟩
  have D_seen : Def P w K mg base _ "seen" ["ring", "eyes"] _ f_seen fd_seen := ⟨ok_seen F_seen O HI, PySem.W.mg_of X G a_seen, F_seen.kp, F_seen.binds (ps := ["ring", "eyes"]) fun _ _ _ _ _ _ us hl => match us, hl with | [_, _], _ => rfl⟩
  have D_vin : Def P w K mg base _ "views_in" ["ring", "eyes"] _ f_vin fd_vin := ⟨ok_vin F_vin O D_seen D_les, PySem.W.mg_of X G a_vin, F_vin.kp, F_vin.binds (ps := ["ring", "eyes"]) fun _ _ _ _ _ _ us hl => match us, hl with | [_, _], _ => rfl⟩
  have D_vof : Def P w K mg base _ "views_of" ["names", "eyes"] _ f_vof fd_vof := ⟨ok_vof F_vof O D_vin, PySem.W.mg_of X G a_vof, F_vof.kp, F_vof.binds (ps := ["names", "eyes"]) fun _ _ _ _ _ _ us hl => match us, hl with | [_, _], _ => rfl⟩
  have D_apart : Def P w K mg base _ "all_apart" ["ring"] _ f_apart fd_apart := ⟨ok_apart F_apart O, PySem.W.mg_of X G a_apart, F_apart.kp, F_apart.binds (ps := ["ring"]) fun _ _ _ _ _ _ us hl => match us, hl with | [_], _ => rfl⟩
  have D_nov : Def P w K mg base _ "numbers_of_views" ["ring", "eyes", "views"] _ f_nov fd_nov := ⟨ok_nov F_nov D_vin, PySem.W.mg_of X G a_nov, F_nov.kp, F_nov.binds (ps := ["ring", "eyes", "views"]) fun _ _ _ _ _ _ us hl => match us, hl with | [_, _, _], _ => rfl⟩
  have D_most : Def P w K mg base _ "most_told" ["view"] _ f_most fd_most := ⟨ok_most F_most D_even, PySem.W.mg_of X G a_most, F_most.kp, F_most.binds (ps := ["view"]) fun _ _ _ _ _ _ us hl => match us, hl with | [_], _ => rfl⟩
  have D_how : Def P w K mg base _ "how_many_rules" ["board"] _ f_how fd_how := ⟨ok_how F_how T D_most (fun _ ok => short_views ok), PySem.W.mg_of X G a_how, F_how.kp, F_how.binds (ps := ["board"]) fun _ _ _ _ _ _ us hl => match us, hl with | [_], _ => rfl⟩
  have D_order : Def P w K mg base _ "rules_in_order" ["board"] _ f_order fd_order := ⟨ok_order F_order O T D_most, PySem.W.mg_of X G a_order, F_order.kp, F_order.binds (ps := ["board"]) fun _ _ _ _ _ _ us hl => match us, hl with | [_], _ => rfl⟩
  have D_step : Def P w K mg base _ "steps_of" ["looks", "place", "done"] _ f_step fd_step := ⟨ok_step F_step D_row, PySem.W.mg_of X G a_step, F_step.kp, F_step.binds (ps := ["looks", "place", "done"]) fun _ _ _ _ _ _ us hl => match us, hl with | [_, _, _], _ => rfl⟩
  have D_eager : Def P w K mg base _ "eager_robots" ["ring", "eyes", "told"] _ f_eager fd_eager := ⟨ok_eager F_eager O D_seen D_step D_les, PySem.W.mg_of X G a_eager, F_eager.kp, F_eager.binds (ps := ["ring", "eyes", "told"]) fun _ _ _ _ _ _ us hl => match us, hl with | [_, _, _], _ => rfl⟩
  have D_some : Def P w K mg base _ "some_of" ["robots"] _ f_some fd_some := ⟨ok_some F_some, PySem.W.mg_of X G a_some, F_some.kp, F_some.binds (ps := ["robots"]) fun _ _ _ _ _ _ us hl => match us, hl with | [_], _ => rfl⟩
  have D_whogo : Def P w K mg base _ "who_may_go" ["eager", "moves"] _ f_whogo fd_whogo := ⟨ok_who F_whogo O KD D_some, PySem.W.mg_of X G a_whogo, F_whogo.kp, F_whogo.binds (ps := ["eager", "moves"]) fun _ _ _ _ _ _ us hl => match us, hl with | [_, _], _ => rfl⟩
  have D_gone : Def P w K mg base _ "with_one_gone" ["ring", "place", "step"] _ f_gone fd_gone := ⟨ok_gone F_gone O, PySem.W.mg_of X G a_gone, F_gone.kp, F_gone.binds (ps := ["ring", "place", "step"]) fun _ _ _ _ _ _ us hl => match us, hl with | [_, _, _], _ => rfl⟩
  have D_rings : Def P w K mg base _ "rings_after" ["ring", "going"] _ f_rings fd_rings := ⟨ok_rings F_rings D_gone, PySem.W.mg_of X G a_rings, F_rings.kp, F_rings.binds (ps := ["ring", "going"]) fun _ _ _ _ _ _ us hl => match us, hl with | [_, _], _ => rfl⟩
  have D_after : Def P w K mg base _ "names_after" ["ring", "eyes", "told", "moves"] _ f_after fd_after := ⟨ok_after F_after O D_eager D_whogo D_rings D_name, PySem.W.mg_of X G a_after, F_after.kp, F_after.binds (ps := ["ring", "eyes", "told", "moves"]) fun _ _ _ _ _ _ us hl => match us, hl with | [_, _, _, _], _ => rfl⟩
  have D_bits : Def P w K mg base _ "bits_of" ["numbers"] _ f_bits fd_bits := ⟨ok_bits F_bits, PySem.W.mg_of X G a_bits, F_bits.kp, F_bits.binds (ps := ["numbers"]) fun _ _ _ _ _ _ us hl => match us, hl with | [_], _ => rfl⟩
  have D_nums : Def P w K mg base _ "numbers_of" ["bits"] _ f_nums fd_nums := ⟨ok_nums F_nums O, PySem.W.mg_of X G a_nums, F_nums.kp, F_nums.binds (ps := ["bits"]) fun _ _ _ _ _ _ us hl => match us, hl with | [_], _ => rfl⟩
  have D_reck : Def P w K mg base _ "reckoned_after" ["board", "number", "done", "moves"] _ f_reck fd_reck := ⟨ok_reck F_reck O T D_after D_bits, PySem.W.mg_of X G a_reck, F_reck.kp, F_reck.binds (ps := ["board", "number", "done", "moves"]) fun _ _ _ _ _ _ us hl => match us, hl with | [_, _, _, _], _ => rfl⟩
  have D_ba : Def P w K mg base _ "bits_after" ["board", "number", "rule", "moves"] _ f_ba fd_ba := ⟨ok_ba F_ba O T D_reck, PySem.W.mg_of X G a_ba, F_ba.kp, F_ba.binds (ps := ["board", "number", "rule", "moves"]) fun _ _ _ _ _ _ us hl => match us, hl with | [_, _, _, _], _ => rfl⟩
  have D_rest : Def P w K mg base _ "comes_to_rest" ["number", "after", "sure"] _ f_rest fd_rest := ⟨ok_rest F_rest KD.top, PySem.W.mg_of X G a_rest, F_rest.kp, F_rest.binds (ps := ["number", "after", "sure"]) fun _ _ _ _ _ _ us hl => match us, hl with | [_, _, _], _ => rfl⟩
  have D_sureof : Def P w K mg base _ "sure_of" ["afters"] _ f_sureof fd_sureof := ⟨ok_sureOf F_sureof O D_rest, PySem.W.mg_of X G a_sureof, F_sureof.kp, F_sureof.binds (ps := ["afters"]) fun _ _ _ _ _ _ us hl => match us, hl with | [_], _ => rfl⟩
  have D_sureby : Def P w K mg base _ "sure_by" ["board", "rule", "moves"] _ f_sureby fd_sureby := ⟨ok_sureBy F_sureby O T D_sureof D_ba, PySem.W.mg_of X G a_sureby, F_sureby.kp, F_sureby.binds (ps := ["board", "rule", "moves"]) fun _ _ _ _ _ _ us hl => match us, hl with | [_, _, _], _ => rfl⟩
  have D_each : Def P w K mg base _ "sure_by_each" ["board", "moves"] _ f_each fd_each := ⟨ok_each F_each T D_order D_sureby, PySem.W.mg_of X G a_each, F_each.kp, F_each.binds (ps := ["board", "moves"]) fun _ _ _ _ _ _ us hl => match us, hl with | [_, _], _ => rfl⟩
  have D_good : Def P w K mg base _ "good_rules" ["board", "moves"] _ f_good fd_good := ⟨ok_good F_good T D_bits D_each, PySem.W.mg_of X G a_good, F_good.kp, F_good.binds (ps := ["board", "moves"]) fun _ _ _ _ _ _ us hl => match us, hl with | [_, _], _ => rfl⟩
  have D_best : Def P w K mg base _ "best_rule" ["board"] _ f_best fd_best := ⟨ok_best F_best O T D_bits D_nums D_each, PySem.W.mg_of X G a_best, F_best.kp, F_best.binds (ps := ["board"]) fun _ _ _ _ _ _ us hl => match us, hl with | [_], _ => rfl⟩
  have D_moref : Def P w K mg base _ "with_one_more" ["fews", "numbers"] _ f_moref fd_moref := ⟨ok_moreF F_moref O, PySem.W.mg_of X G a_moref, F_moref.kp, F_moref.binds (ps := ["fews", "numbers"]) fun _ _ _ _ _ _ us hl => match us, hl with | [_, _], _ => rfl⟩
  have D_first : Def P w K mg base _ "first_hopeless" ["fews", "sures"] _ f_first fd_first := ⟨ok_first F_first O D_bits, PySem.W.mg_of X G a_first, F_first.kp, F_first.binds (ps := ["fews", "sures"]) fun _ _ _ _ _ _ us hl => match us, hl with | [_, _], _ => rfl⟩
  have D_fewest : Def P w K mg base _ "fewest_hopeless" ["board"] _ f_fewest fd_fewest := ⟨ok_fewest F_fewest O T D_moref D_first D_each, PySem.W.mg_of X G a_fewest, F_fewest.kp, F_fewest.binds (ps := ["board"]) fun _ _ _ _ _ _ us hl => match us, hl with | [_], _ => rfl⟩
  have D_counted : Def P w K mg base _ "counted" ["numbers"] _ f_counted fd_counted := ⟨ok_counted F_counted O, PySem.W.mg_of X G a_counted, F_counted.kp, F_counted.binds (ps := ["numbers"]) fun _ _ _ _ _ _ us hl => match us, hl with | [_], _ => rfl⟩
  have D_c1 : Def P w K mg base _ "call_at" ["board", "arguments"] _ f_c1 fd_c1 := ⟨ok_cat F_c1 T Z, PySem.W.mg_of X G a_c1, F_c1.kp, F_c1.binds (ps := ["board", "arguments"]) fun _ _ _ _ _ _ us hl => match us, hl with | [_, _], _ => rfl⟩
  have D_c2 : Def P w K mg base _ "call_names" ["board", "arguments"] _ f_c2 fd_c2 := ⟨ok_cnames F_c2 O T, PySem.W.mg_of X G a_c2, F_c2.kp, F_c2.binds (ps := ["board", "arguments"]) fun _ _ _ _ _ _ us hl => match us, hl with | [_, _], _ => rfl⟩
  have D_c3 : Def P w K mg base _ "call_name" ["board", "arguments"] _ f_c3 fd_c3 := ⟨ok_cname F_c3 O T D_counted (fun _ ok r m => by have := (short_names ok r m).2; omega), PySem.W.mg_of X G a_c3, F_c3.kp, F_c3.binds (ps := ["board", "arguments"]) fun _ _ _ _ _ _ us hl => match us, hl with | [_, _], _ => rfl⟩
  have D_c4 : Def P w K mg base _ "call_views" ["board", "arguments"] _ f_c4 fd_c4 := ⟨ok_cviews F_c4 O T, PySem.W.mg_of X G a_c4, F_c4.kp, F_c4.binds (ps := ["board", "arguments"]) fun _ _ _ _ _ _ us hl => match us, hl with | [_, _], _ => rfl⟩
  have D_c5 : Def P w K mg base _ "call_view" ["board", "arguments"] _ f_c5 fd_c5 := ⟨ok_cview F_c5 O T D_even (fun _ ok => short_views ok), PySem.W.mg_of X G a_c5, F_c5.kp, F_c5.binds (ps := ["board", "arguments"]) fun _ _ _ _ _ _ us hl => match us, hl with | [_, _], _ => rfl⟩
  have D_c6 : Def P w K mg base _ "call_who" ["board", "arguments"] _ f_c6 fd_c6 := ⟨ok_cwho F_c6 T D_counted (fun _ ok => short_names ok), PySem.W.mg_of X G a_c6, F_c6.kp, F_c6.binds (ps := ["board", "arguments"]) fun _ _ _ _ _ _ us hl => match us, hl with | [_, _], _ => rfl⟩
  have D_c7 : Def P w K mg base _ "call_mark" ["board", "arguments"] _ f_c7 fd_c7 := ⟨ok_cmark F_c7 O T Z, PySem.W.mg_of X G a_c7, F_c7.kp, F_c7.binds (ps := ["board", "arguments"]) fun _ _ _ _ _ _ us hl => match us, hl with | [_, _], _ => rfl⟩
  have D_c8 : Def P w K mg base _ "call_unmark" ["board", "arguments"] _ f_c8 fd_c8 := ⟨ok_cun F_c8 O T Z, PySem.W.mg_of X G a_c8, F_c8.kp, F_c8.binds (ps := ["board", "arguments"]) fun _ _ _ _ _ _ us hl => match us, hl with | [_, _], _ => rfl⟩
  have D_c9 : Def P w K mg base _ "call_markapart" ["board", "arguments"] _ f_c9 fd_c9 := ⟨ok_capart F_c9 O T D_apart (fun _ ok r m => (short_names ok r m).1), PySem.W.mg_of X G a_c9, F_c9.kp, F_c9.binds (ps := ["board", "arguments"]) fun _ _ _ _ _ _ us hl => match us, hl with | [_, _], _ => rfl⟩
  have D_c10 : Def P w K mg base _ "call_marks" ["board", "arguments"] _ f_c10 fd_c10 := ⟨ok_cmarks F_c10 O T D_counted, PySem.W.mg_of X G a_c10, F_c10.kp, F_c10.binds (ps := ["board", "arguments"]) fun _ _ _ _ _ _ us hl => match us, hl with | [_, _], _ => rfl⟩
  have D_c11 : Def P w K mg base _ "call_rules" ["board", "arguments"] _ f_c11 fd_c11 := ⟨ok_crules F_c11 D_how, PySem.W.mg_of X G a_c11, F_c11.kp, F_c11.binds (ps := ["board", "arguments"]) fun _ _ _ _ _ _ us hl => match us, hl with | [_, _], _ => rfl⟩
  have D_c12 : Def P w K mg base _ "call_set" ["board", "arguments"] _ f_c12 fd_c12 := ⟨ok_cset F_c12 T Z D_most (fun _ ok => short_views ok), PySem.W.mg_of X G a_c12, F_c12.kp, F_c12.binds (ps := ["board", "arguments"]) fun _ _ _ _ _ _ us hl => match us, hl with | [_, _], _ => rfl⟩
  have D_c13 : Def P w K mg base _ "call_rule" ["board", "arguments"] _ f_c13 fd_c13 := ⟨ok_crule F_c13 T D_counted, PySem.W.mg_of X G a_c13, F_c13.kp, F_c13.binds (ps := ["board", "arguments"]) fun _ _ _ _ _ _ us hl => match us, hl with | [_, _], _ => rfl⟩
  have D_c14 : Def P w K mg base _ "call_good" ["board", "arguments"] _ f_c14 fd_c14 := ⟨ok_cgood F_c14 O T D_sureby D_bits D_nums, PySem.W.mg_of X G a_c14, F_c14.kp, F_c14.binds (ps := ["board", "arguments"]) fun _ _ _ _ _ _ us hl => match us, hl with | [_, _], _ => rfl⟩
  have D_c15 : Def P w K mg base _ "call_goods" ["board", "arguments"] _ f_c15 fd_c15 := ⟨ok_cgoods F_c15 T D_sureby D_counted D_nums, PySem.W.mg_of X G a_c15, F_c15.kp, F_c15.binds (ps := ["board", "arguments"]) fun _ _ _ _ _ _ us hl => match us, hl with | [_, _], _ => rfl⟩
  have D_one : Def P w K mg base _ "good_one" ["board", "number"] _ f_one fd_one := ⟨ok_one F_one O T D_good, PySem.W.mg_of X G a_one, F_one.kp, F_one.binds (ps := ["board", "number"]) fun _ _ _ _ _ _ us hl => match us, hl with | [_, _], _ => rfl⟩
  have D_c16 : Def P w K mg base _ "call_found" ["board", "arguments"] _ f_c16 fd_c16 := ⟨ok_cfound F_c16 Z D_one D_counted, PySem.W.mg_of X G a_c16, F_c16.kp, F_c16.binds (ps := ["board", "arguments"]) fun _ _ _ _ _ _ us hl => match us, hl with | [_, _], _ => rfl⟩
  have D_c17 : Def P w K mg base _ "call_take" ["board", "arguments"] _ f_c17 fd_c17 := ⟨ok_ctake F_c17 T Z D_one, PySem.W.mg_of X G a_c17, F_c17.kp, F_c17.binds (ps := ["board", "arguments"]) fun _ _ _ _ _ _ us hl => match us, hl with | [_, _], _ => rfl⟩
  have D_c18 : Def P w K mg base _ "call_many" ["board", "arguments"] _ f_c18 fd_c18 := ⟨ok_cmany F_c18 O T D_good D_how, PySem.W.mg_of X G a_c18, F_c18.kp, F_c18.binds (ps := ["board", "arguments"]) fun _ _ _ _ _ _ us hl => match us, hl with | [_, _], _ => rfl⟩
  have D_c19 : Def P w K mg base _ "call_best" ["board", "arguments"] _ f_c19 fd_c19 := ⟨ok_cbest F_c19 O D_best, PySem.W.mg_of X G a_c19, F_c19.kp, F_c19.binds (ps := ["board", "arguments"]) fun _ _ _ _ _ _ us hl => match us, hl with | [_, _], _ => rfl⟩
  have D_c20 : Def P w K mg base _ "call_needed" ["board", "arguments"] _ f_c20 fd_c20 := ⟨ok_cneed F_c20 O T Z D_good D_bits, PySem.W.mg_of X G a_c20, F_c20.kp, F_c20.binds (ps := ["board", "arguments"]) fun _ _ _ _ _ _ us hl => match us, hl with | [_, _], _ => rfl⟩
  have D_c21 : Def P w K mg base _ "call_why" ["board", "arguments"] _ f_c21 fd_c21 := ⟨ok_cwhy F_c21 O T Z D_good D_fewest D_counted, PySem.W.mg_of X G a_c21, F_c21.kp, F_c21.binds (ps := ["board", "arguments"]) fun _ _ _ _ _ _ us hl => match us, hl with | [_, _], _ => rfl⟩
  have D_c22 : Def P w K mg base _ "call_allat" ["board", "arguments"] _ f_c22 fd_c22 := ⟨ok_call F_c22 O D_good, PySem.W.mg_of X G a_c22, F_c22.kp, F_c22.binds (ps := ["board", "arguments"]) fun _ _ _ _ _ _ us hl => match us, hl with | [_, _], _ => rfl⟩
  have D_c23 : Def P w K mg base _ "call_nth" ["board", "arguments"] _ f_c23 fd_c23 := ⟨ok_cnth F_c23 Z D_one D_counted, PySem.W.mg_of X G a_c23, F_c23.kp, F_c23.binds (ps := ["board", "arguments"]) fun _ _ _ _ _ _ us hl => match us, hl with | [_, _], _ => rfl⟩
  have D_c24 : Def P w K mg base _ "call_told" ["board", "arguments"] _ f_c24 fd_c24 := ⟨ok_ctold F_c24 O T, PySem.W.mg_of X G a_c24, F_c24.kp, F_c24.binds (ps := ["board", "arguments"]) fun _ _ _ _ _ _ us hl => match us, hl with | [_, _], _ => rfl⟩
  have D_can : Def P w K mg base _ "can_begin" ["places", "eyes", "robots", "moves"] _ f_can fd_can := ⟨ok_can F_can, PySem.W.mg_of X G a_can, F_can.kp, F_can.binds (ps := ["places", "eyes", "robots", "moves"]) fun _ _ _ _ _ _ us hl => match us, hl with | [_, _, _, _], _ => rfl⟩
  have OK_init := ok_init (P := P) (w := w) (base := base) F_init O T D_names D_vof D_nov set_ok
  have D_begun : Def P w K mg base _ "begun" ["arguments"] _ f_begun fd_begun := ⟨ok_begun F_begun T D_can ⟨mk, a_init, i_init, kc⟩ OK_init b_init, PySem.W.mg_of X G a_begun, F_begun.kp, F_begun.binds (ps := ["arguments"]) fun _ _ _ _ _ _ us hl => match us, hl with | [_], _ => rfl⟩
  have D_noth : Def P w K mg base _ "names_nothing" ["board", "call", "arguments"] _ f_noth fd_noth := ⟨ok_noth F_noth O T SE, PySem.W.mg_of X G a_noth, F_noth.kp, F_noth.binds (ps := ["board", "call", "arguments"]) fun _ _ _ _ _ _ us hl => match us, hl with | [_, _, _], _ => rfl⟩
  have TB : Tab P w K mg base C cC _ := ⟨PySem.W.mg_of X G gC, KI, fun n n0 n24 => by
    rcases one_of24 n0 n24 with rfl | rfl | rfl | rfl | rfl | rfl | rfl | rfl | rfl | rfl | rfl | rfl | rfl | rfl | rfl | rfl | rfl | rfl | rfl | rfl | rfl | rfl | rfl | rfl
    · exact ⟨f_c1, by rfl, ⟨⟨fd_c1, _, D_c1.ok.mono (by decide), D_c1.kp, D_c1.b⟩⟩⟩
    · exact ⟨f_c2, by rfl, ⟨⟨fd_c2, _, D_c2.ok.mono (by decide), D_c2.kp, D_c2.b⟩⟩⟩
    · exact ⟨f_c3, by rfl, ⟨⟨fd_c3, _, D_c3.ok.mono (by decide), D_c3.kp, D_c3.b⟩⟩⟩
    · exact ⟨f_c4, by rfl, ⟨⟨fd_c4, _, D_c4.ok.mono (by decide), D_c4.kp, D_c4.b⟩⟩⟩
    · exact ⟨f_c5, by rfl, ⟨⟨fd_c5, _, D_c5.ok.mono (by decide), D_c5.kp, D_c5.b⟩⟩⟩
    · exact ⟨f_c6, by rfl, ⟨⟨fd_c6, _, D_c6.ok.mono (by decide), D_c6.kp, D_c6.b⟩⟩⟩
    · exact ⟨f_c7, by rfl, ⟨⟨fd_c7, _, D_c7.ok.mono (by decide), D_c7.kp, D_c7.b⟩⟩⟩
    · exact ⟨f_c8, by rfl, ⟨⟨fd_c8, _, D_c8.ok.mono (by decide), D_c8.kp, D_c8.b⟩⟩⟩
    · exact ⟨f_c9, by rfl, ⟨⟨fd_c9, _, D_c9.ok.mono (by decide), D_c9.kp, D_c9.b⟩⟩⟩
    · exact ⟨f_c10, by rfl, ⟨⟨fd_c10, _, D_c10.ok.mono (by decide), D_c10.kp, D_c10.b⟩⟩⟩
    · exact ⟨f_c11, by rfl, ⟨⟨fd_c11, _, D_c11.ok.mono (by decide), D_c11.kp, D_c11.b⟩⟩⟩
    · exact ⟨f_c12, by rfl, ⟨⟨fd_c12, _, D_c12.ok.mono (by decide), D_c12.kp, D_c12.b⟩⟩⟩
    · exact ⟨f_c13, by rfl, ⟨⟨fd_c13, _, D_c13.ok.mono (by decide), D_c13.kp, D_c13.b⟩⟩⟩
    · exact ⟨f_c14, by rfl, ⟨⟨fd_c14, _, D_c14.ok.mono (by decide), D_c14.kp, D_c14.b⟩⟩⟩
    · exact ⟨f_c15, by rfl, ⟨⟨fd_c15, _, D_c15.ok.mono (by decide), D_c15.kp, D_c15.b⟩⟩⟩
    · exact ⟨f_c16, by rfl, ⟨⟨fd_c16, _, D_c16.ok.mono (by decide), D_c16.kp, D_c16.b⟩⟩⟩
    · exact ⟨f_c17, by rfl, ⟨⟨fd_c17, _, D_c17.ok.mono (by decide), D_c17.kp, D_c17.b⟩⟩⟩
    · exact ⟨f_c18, by rfl, ⟨⟨fd_c18, _, D_c18.ok.mono (by decide), D_c18.kp, D_c18.b⟩⟩⟩
    · exact ⟨f_c19, by rfl, ⟨⟨fd_c19, _, D_c19.ok.mono (by decide), D_c19.kp, D_c19.b⟩⟩⟩
    · exact ⟨f_c20, by rfl, ⟨⟨fd_c20, _, D_c20.ok.mono (by decide), D_c20.kp, D_c20.b⟩⟩⟩
    · exact ⟨f_c21, by rfl, ⟨⟨fd_c21, _, D_c21.ok.mono (by decide), D_c21.kp, D_c21.b⟩⟩⟩
    · exact ⟨f_c22, by rfl, ⟨⟨fd_c22, _, D_c22.ok.mono (by decide), D_c22.kp, D_c22.b⟩⟩⟩
    · exact ⟨f_c23, by rfl, ⟨⟨fd_c23, _, D_c23.ok.mono (by decide), D_c23.kp, D_c23.b⟩⟩⟩
    · exact ⟨f_c24, by rfl, ⟨⟨fd_c24, _, D_c24.ok.mono (by decide), D_c24.kp, D_c24.b⟩⟩⟩⟩
  have D_on : Def P w K mg base _ "answer_on" ["board", "call", "arguments"] _ f_on fd_on := ⟨ok_on F_on SE Z D_noth D_how TB, PySem.W.mg_of X G a_on, F_on.kp, F_on.binds (ps := ["board", "call", "arguments"]) fun _ _ _ _ _ _ us hl => match us, hl with | [_, _, _], _ => rfl⟩
  exact ok_ans F_ans O T Z LP steps D_begun D_on (by decide)
end RF

/-! ## RFLast -/
open PySem PySem.W PyProof.Rows
set_option maxRecDepth 100000 in
set_option maxHeartbeats 40000000 in
theorem PySem.Challenge.cw_rulesfound_s01_answers_holds : PySem.Challenge.rw_rulesfound_s01_answers.Holds := by
  w_on; k_headS; (case hw => exact ⟨[.list [.int 2]], by decide +kernel, by decide +kernel⟩)
  k_fillS
  refine L2.walk_specK (r := PySem.Challenge.rw_rulesfound_s01_answers) (k := 13) (CX := L2.CX0) (ps := ["calls"]) (sp := RF.spAns) (by decide +kernel) rfl rfl ⟨rfl, by decide, by decide⟩ (fun w h Y => PySem.W.kIn_of Y) ?F ?S (fun _ _ _ _ z => z)
  case F =>
    intro w mg fa h Y KX G hmg
    refine' RF.all_mk KX G hmg ?d_row ?d_les ?d_even ?d_name ?d_more ?d_names ?d_seen ?d_vin ?d_vof ?d_apart ?d_nov ?d_most ?d_how ?d_order ?d_step ?d_eager ?d_some ?d_whogo ?d_gone ?d_rings ?d_after ?d_bits ?d_nums ?d_reck ?d_ba ?d_rest ?d_sureof ?d_sureby ?d_each ?d_good ?d_best ?d_moref ?d_first ?d_fewest ?d_counted ?d_c1 ?d_c2 ?d_c3 ?d_c4 ?d_c5 ?d_c6 ?d_c7 ?d_c8 ?d_c9 ?d_c10 ?d_c11 ?d_c12 ?d_c13 ?d_c14 ?d_c15 ?d_one ?d_c16 ?d_c17 ?d_c18 ?d_c19 ?d_c20 ?d_c21 ?d_c22 ?d_c23 ?d_c24 ?d_can ?d_begun ?d_noth ?d_on ?a_ans ?l_ans ?c_ans ?k_ans ?aC ?a_init ?i_init ?l_init ?c_init ?k_init ?pg ?hd ?po ?sa ?mk ?kc ?nP ?nE ?nK ?nA ?nN ?nV ?nH ?nM ?nR ?nY ?nQ ?o_len ?o_range ?o_tuple ?o_min ?o_max ?o_sum ?o_sorted ?o_list ?o_enumerate ?o_zip ?o_any ?i_ONE_GOES ?i_SOME_GO ?i_TOGETHER ?i_NO_SUCH ?i_NOT_MARKED ?i_SOME_RULE_IS_GOOD ?i_NOT_BEGUN ?i_MARKED_ALREADY ?i_OUT_OF_RANGE ?i_TOO_MANY_RULES ?i_NO_GOOD_RULE ?i_MOST_RULES ?i_BEGIN ?t_hi ?t_ar ?t_on ?t_ov ?t_orr ?gC ?lC ?eC ?loC ?rC
    (case d_row => (refine' RF.def_at ?a ?l ?c ?k); (case a => k_is); (case l => k_is); (case c => k_is); (case k => k_is))
    (case d_les => (refine' RF.def_at ?a ?l ?c ?k); (case a => k_is); (case l => k_is); (case c => k_is); (case k => k_is))
    (case d_even => (refine' RF.def_at ?a ?l ?c ?k); (case a => k_is); (case l => k_is); (case c => k_is); (case k => k_is))
    (case d_name => (refine' RF.def_at ?a ?l ?c ?k); (case a => k_is); (case l => k_is); (case c => k_is); (case k => k_is))
    (case d_more => (refine' RF.def_at ?a ?l ?c ?k); (case a => k_is); (case l => k_is); (case c => k_is); (case k => k_is))
    (case d_names => (refine' RF.def_at ?a ?l ?c ?k); (case a => k_is); (case l => k_is); (case c => k_is); (case k => k_is))
    (case d_seen => (refine' RF.def_at ?a ?l ?c ?k); (case a => k_is); (case l => k_is); (case c => k_is); (case k => k_is))
    (case d_vin => (refine' RF.def_at ?a ?l ?c ?k); (case a => k_is); (case l => k_is); (case c => k_is); (case k => k_is))
    (case d_vof => (refine' RF.def_at ?a ?l ?c ?k); (case a => k_is); (case l => k_is); (case c => k_is); (case k => k_is))
    (case d_apart => (refine' RF.def_at ?a ?l ?c ?k); (case a => k_is); (case l => k_is); (case c => k_is); (case k => k_is))
    (case d_nov => (refine' RF.def_at ?a ?l ?c ?k); (case a => k_is); (case l => k_is); (case c => k_is); (case k => k_is))
    (case d_most => (refine' RF.def_at ?a ?l ?c ?k); (case a => k_is); (case l => k_is); (case c => k_is); (case k => k_is))
    (case d_how => (refine' RF.def_at ?a ?l ?c ?k); (case a => k_is); (case l => k_is); (case c => k_is); (case k => k_is))
    (case d_order => (refine' RF.def_at ?a ?l ?c ?k); (case a => k_is); (case l => k_is); (case c => k_is); (case k => k_is))
    (case d_step => (refine' RF.def_at ?a ?l ?c ?k); (case a => k_is); (case l => k_is); (case c => k_is); (case k => k_is))
    (case d_eager => (refine' RF.def_at ?a ?l ?c ?k); (case a => k_is); (case l => k_is); (case c => k_is); (case k => k_is))
    (case d_some => (refine' RF.def_at ?a ?l ?c ?k); (case a => k_is); (case l => k_is); (case c => k_is); (case k => k_is))
    (case d_whogo => (refine' RF.def_at ?a ?l ?c ?k); (case a => k_is); (case l => k_is); (case c => k_is); (case k => k_is))
    (case d_gone => (refine' RF.def_at ?a ?l ?c ?k); (case a => k_is); (case l => k_is); (case c => k_is); (case k => k_is))
    (case d_rings => (refine' RF.def_at ?a ?l ?c ?k); (case a => k_is); (case l => k_is); (case c => k_is); (case k => k_is))
    (case d_after => (refine' RF.def_at ?a ?l ?c ?k); (case a => k_is); (case l => k_is); (case c => k_is); (case k => k_is))
    (case d_bits => (refine' RF.def_at ?a ?l ?c ?k); (case a => k_is); (case l => k_is); (case c => k_is); (case k => k_is))
    (case d_nums => (refine' RF.def_at ?a ?l ?c ?k); (case a => k_is); (case l => k_is); (case c => k_is); (case k => k_is))
    (case d_reck => (refine' RF.def_at ?a ?l ?c ?k); (case a => k_is); (case l => k_is); (case c => k_is); (case k => k_is))
    (case d_ba => (refine' RF.def_at ?a ?l ?c ?k); (case a => k_is); (case l => k_is); (case c => k_is); (case k => k_is))
    (case d_rest => (refine' RF.def_at ?a ?l ?c ?k); (case a => k_is); (case l => k_is); (case c => k_is); (case k => k_is))
    (case d_sureof => (refine' RF.def_at ?a ?l ?c ?k); (case a => k_is); (case l => k_is); (case c => k_is); (case k => k_is))
    (case d_sureby => (refine' RF.def_at ?a ?l ?c ?k); (case a => k_is); (case l => k_is); (case c => k_is); (case k => k_is))
    (case d_each => (refine' RF.def_at ?a ?l ?c ?k); (case a => k_is); (case l => k_is); (case c => k_is); (case k => k_is))
    (case d_good => (refine' RF.def_at ?a ?l ?c ?k); (case a => k_is); (case l => k_is); (case c => k_is); (case k => k_is))
    (case d_best => (refine' RF.def_at ?a ?l ?c ?k); (case a => k_is); (case l => k_is); (case c => k_is); (case k => k_is))
    (case d_moref => (refine' RF.def_at ?a ?l ?c ?k); (case a => k_is); (case l => k_is); (case c => k_is); (case k => k_is))
    (case d_first => (refine' RF.def_at ?a ?l ?c ?k); (case a => k_is); (case l => k_is); (case c => k_is); (case k => k_is))
    (case d_fewest => (refine' RF.def_at ?a ?l ?c ?k); (case a => k_is); (case l => k_is); (case c => k_is); (case k => k_is))
    (case d_counted => (refine' RF.def_at ?a ?l ?c ?k); (case a => k_is); (case l => k_is); (case c => k_is); (case k => k_is))
    (case d_c1 => (refine' RF.def_at ?a ?l ?c ?k); (case a => k_is); (case l => k_is); (case c => k_is); (case k => k_is))
    (case d_c2 => (refine' RF.def_at ?a ?l ?c ?k); (case a => k_is); (case l => k_is); (case c => k_is); (case k => k_is))
    (case d_c3 => (refine' RF.def_at ?a ?l ?c ?k); (case a => k_is); (case l => k_is); (case c => k_is); (case k => k_is))
    (case d_c4 => (refine' RF.def_at ?a ?l ?c ?k); (case a => k_is); (case l => k_is); (case c => k_is); (case k => k_is))
    (case d_c5 => (refine' RF.def_at ?a ?l ?c ?k); (case a => k_is); (case l => k_is); (case c => k_is); (case k => k_is))
    (case d_c6 => (refine' RF.def_at ?a ?l ?c ?k); (case a => k_is); (case l => k_is); (case c => k_is); (case k => k_is))
    (case d_c7 => (refine' RF.def_at ?a ?l ?c ?k); (case a => k_is); (case l => k_is); (case c => k_is); (case k => k_is))
    (case d_c8 => (refine' RF.def_at ?a ?l ?c ?k); (case a => k_is); (case l => k_is); (case c => k_is); (case k => k_is))
    (case d_c9 => (refine' RF.def_at ?a ?l ?c ?k); (case a => k_is); (case l => k_is); (case c => k_is); (case k => k_is))
    (case d_c10 => (refine' RF.def_at ?a ?l ?c ?k); (case a => k_is); (case l => k_is); (case c => k_is); (case k => k_is))
    (case d_c11 => (refine' RF.def_at ?a ?l ?c ?k); (case a => k_is); (case l => k_is); (case c => k_is); (case k => k_is))
    (case d_c12 => (refine' RF.def_at ?a ?l ?c ?k); (case a => k_is); (case l => k_is); (case c => k_is); (case k => k_is))
    (case d_c13 => (refine' RF.def_at ?a ?l ?c ?k); (case a => k_is); (case l => k_is); (case c => k_is); (case k => k_is))
    (case d_c14 => (refine' RF.def_at ?a ?l ?c ?k); (case a => k_is); (case l => k_is); (case c => k_is); (case k => k_is))
    (case d_c15 => (refine' RF.def_at ?a ?l ?c ?k); (case a => k_is); (case l => k_is); (case c => k_is); (case k => k_is))
    (case d_one => (refine' RF.def_at ?a ?l ?c ?k); (case a => k_is); (case l => k_is); (case c => k_is); (case k => k_is))
    (case d_c16 => (refine' RF.def_at ?a ?l ?c ?k); (case a => k_is); (case l => k_is); (case c => k_is); (case k => k_is))
    (case d_c17 => (refine' RF.def_at ?a ?l ?c ?k); (case a => k_is); (case l => k_is); (case c => k_is); (case k => k_is))
    (case d_c18 => (refine' RF.def_at ?a ?l ?c ?k); (case a => k_is); (case l => k_is); (case c => k_is); (case k => k_is))
    (case d_c19 => (refine' RF.def_at ?a ?l ?c ?k); (case a => k_is); (case l => k_is); (case c => k_is); (case k => k_is))
    (case d_c20 => (refine' RF.def_at ?a ?l ?c ?k); (case a => k_is); (case l => k_is); (case c => k_is); (case k => k_is))
    (case d_c21 => (refine' RF.def_at ?a ?l ?c ?k); (case a => k_is); (case l => k_is); (case c => k_is); (case k => k_is))
    (case d_c22 => (refine' RF.def_at ?a ?l ?c ?k); (case a => k_is); (case l => k_is); (case c => k_is); (case k => k_is))
    (case d_c23 => (refine' RF.def_at ?a ?l ?c ?k); (case a => k_is); (case l => k_is); (case c => k_is); (case k => k_is))
    (case d_c24 => (refine' RF.def_at ?a ?l ?c ?k); (case a => k_is); (case l => k_is); (case c => k_is); (case k => k_is))
    (case d_can => (refine' RF.def_at ?a ?l ?c ?k); (case a => k_is); (case l => k_is); (case c => k_is); (case k => k_is))
    (case d_begun => (refine' RF.def_at ?a ?l ?c ?k); (case a => k_is); (case l => k_is); (case c => k_is); (case k => k_is))
    (case d_noth => (refine' RF.def_at ?a ?l ?c ?k); (case a => k_is); (case l => k_is); (case c => k_is); (case k => k_is))
    (case d_on => (refine' RF.def_at ?a ?l ?c ?k); (case a => k_is); (case l => k_is); (case c => k_is); (case k => k_is))
    (case a_ans => k_is)
    (case l_ans => k_is)
    (case c_ans => k_is)
    (case k_ans => k_is)
    (case aC => k_is)
    (case a_init => k_is)
    (case i_init => k_is)
    (case l_init => k_is)
    (case c_init => k_is)
    (case k_init => k_is)
    (case pg => k_is)
    (case hd => k_is)
    (case po => k_is)
    (case sa => k_is)
    (case mk => k_is)
    (case kc => k_is)
    (case nP => k_is)
    (case nE => k_is)
    (case nK => k_is)
    (case nA => k_is)
    (case nN => k_is)
    (case nV => k_is)
    (case nH => k_is)
    (case nM => k_is)
    (case nR => k_is)
    (case nY => k_is)
    (case nQ => k_is)
    (case o_len => k_is)
    (case o_range => k_is)
    (case o_tuple => k_is)
    (case o_min => k_is)
    (case o_max => k_is)
    (case o_sum => k_is)
    (case o_sorted => k_is)
    (case o_list => k_is)
    (case o_enumerate => k_is)
    (case o_zip => k_is)
    (case o_any => k_is)
    (case i_ONE_GOES => (refine' RF.int_at ?a ?e); (case a => k_is); (case e => exact rfl))
    (case i_SOME_GO => (refine' RF.int_at ?a ?e); (case a => k_is); (case e => exact rfl))
    (case i_TOGETHER => (refine' RF.int_at ?a ?e); (case a => k_is); (case e => exact rfl))
    (case i_NO_SUCH => (refine' RF.int_at ?a ?e); (case a => k_is); (case e => exact rfl))
    (case i_NOT_MARKED => (refine' RF.int_at ?a ?e); (case a => k_is); (case e => exact rfl))
    (case i_SOME_RULE_IS_GOOD => (refine' RF.int_at ?a ?e); (case a => k_is); (case e => exact rfl))
    (case i_NOT_BEGUN => (refine' RF.int_at ?a ?e); (case a => k_is); (case e => exact rfl))
    (case i_MARKED_ALREADY => (refine' RF.int_at ?a ?e); (case a => k_is); (case e => exact rfl))
    (case i_OUT_OF_RANGE => (refine' RF.int_at ?a ?e); (case a => k_is); (case e => exact rfl))
    (case i_TOO_MANY_RULES => (refine' RF.int_at ?a ?e); (case a => k_is); (case e => exact rfl))
    (case i_NO_GOOD_RULE => (refine' RF.int_at ?a ?e); (case a => k_is); (case e => exact rfl))
    (case i_MOST_RULES => (refine' RF.int_at ?a ?e); (case a => k_is); (case e => exact rfl))
    (case i_BEGIN => (refine' RF.int_at ?a ?e); (case a => k_is); (case e => exact rfl))
    (case t_hi => (refine' RF.tup_at_top ?a ?l ?oc ?dt ?r ?s); (case a => k_is); (case l => k_is); (case oc => exact rfl); (case dt => exact rfl); (case r => exact rfl); (case s => decide))
    (case t_ar => (refine' RF.tup_at_top ?a ?l ?oc ?dt ?r ?s); (case a => k_is); (case l => k_is); (case oc => exact rfl); (case dt => exact rfl); (case r => exact rfl); (case s => decide))
    (case t_on => (refine' RF.tup_at_top ?a ?l ?oc ?dt ?r ?s); (case a => k_is); (case l => k_is); (case oc => exact rfl); (case dt => exact rfl); (case r => exact rfl); (case s => decide))
    (case t_ov => (refine' RF.tup_at_top ?a ?l ?oc ?dt ?r ?s); (case a => k_is); (case l => k_is); (case oc => exact rfl); (case dt => exact rfl); (case r => exact rfl); (case s => decide))
    (case t_orr => (refine' RF.tup_at_top ?a ?l ?oc ?dt ?r ?s); (case a => k_is); (case l => k_is); (case oc => exact rfl); (case dt => exact rfl); (case r => exact rfl); (case s => decide))
    (case gC => k_is)
    (case lC => k_is)
    (case eC => first | exact rfl | decide +kernel)
    (case loC => first | exact rfl | decide +kernel)
    (case rC => first | exact rfl | decide +kernel)
  case S =>
    intro K H xs a hO hwi hask hx
    cases hx with
    | cons h1 h2 =>
      cases h2
      cases h1 with
      | lst hs ha =>
        have e := L2.ints_dw a.1 _ ha
        subst e
        have q : ((Codec.inLen 0 200 a.1 && a.1.all (Codec.inInt 0 4294967295)) && true) = true := hwi
        rw [Bool.and_eq_true, Bool.and_eq_true] at q
        exact ⟨_, a.1, rfl, hs, (Codec.inNat_iff.mp q.1.1).2, hask, fun H' p hp => .lst (L2.SqL.of hp) (L2.dw_ints _)⟩
#print axioms PySem.Challenge.cw_rulesfound_s01_answers_holds
