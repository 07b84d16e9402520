import PyProof.Rows.All
import Wide.All
import OpenK.AllK
import Wide.FinOn
import KE.KStateDown
import Lean
import HandS.ForMost
import HandS.IsInst
import HandS.TupAny
import HandS.TupMul
import HandS.Walk
import HandS.NoneIn
import HandS.Wide
import HandS.Style
import HandS.Evl
import HandS.Defaults
import HandS.Head0
import HandS.Head1
import HandS.Head2
import HandS.HeadEnd
import HandS.HeadHook1
import HandS.HeadHook2
import PyProof.ReprRoads
import HandS.Zip
import KE.DataMinMax
import HandS.TupLe
import HandS.More
import PySem.Challenge.RW_stintpurse_k12_whole_cuts_as_pairs
set_option Elab.async false
set_option linter.all false
set_option maxRecDepth 100000
set_option maxHeartbeats 1000000
namespace Lw
open PySem PySem.Spec PyProof.Rows L2

/-! ### heaps -/
/-- all that was tracked stays, but for what stands at s -/
def But (s : Addr) (H H' : Hp) : Prop := ∀ b o, b ≠ s → H b = some o → H' b = some o
theorem But.refl (s : Addr) (H : Hp) : But s H H := fun _ _ _ h => h
theorem But.trans {s : Addr} {H H1 H2 : Hp} (a : But s H H1) (b : But s H1 H2) : But s H H2 := fun c o n h => b c o n (a c o n h)
theorem But.of {s : Addr} {H H' : Hp} (a : Same H H') : But s H H' := fun b o _ h => a b o h
theorem But.put {s : Addr} {H : Hp} {o : HO} : But s H (upd H s o) := fun b x n h => by rw [upd_ne n]; exact h
theorem Same.new {H : Hp} {p : Addr} {o : HO} (h : H p = none) : Same H (upd H p o) := fun b x e => by
  rw [upd_ne (ne_of_none e h)]; exact e
theorem But.new {s : Addr} {H : Hp} {p : Addr} {o : HO} (h : H p = none) : But s H (upd H p o) := But.of (Same.new h)
/-- what holds of tuples stays -/
def Tups (H H' : Hp) : Prop := ∀ b xs, H b = some (.tup xs) → H' b = some (.tup xs)
theorem Tups.refl (H : Hp) : Tups H H := fun _ _ h => h
theorem Tups.trans {H H1 H2 : Hp} (a : Tups H H1) (b : Tups H1 H2) : Tups H H2 := fun c o h => b c o (a c o h)
theorem Same.tups {H H' : Hp} (a : Same H H') : Tups H H' := fun b xs h => a b _ h

/-! ### data: whole numbers, texts, truths, None, tuples of such -/
inductive D where
  | n | b (x : Bool) | i (x : Int) | s (x : Str) | t (l : List D)
mutual
def At (H : Hp) : D → V → Prop
  | .n, v => v = .non
  | .b x, v => v = .bl x
  | .i x, v => v = .int x
  | .s x, v => v = .str x
  | .t l, v => ∃ a vs, v = .ref a ∧ H a = some (.tup vs) ∧ AtL H l vs
def AtL (H : Hp) : List D → List V → Prop
  | [], vs => vs = []
  | d :: l, vs => ∃ v r, vs = v :: r ∧ At H d v ∧ AtL H l r
end
mutual
theorem At.up {H H' : Hp} (T : Tups H H') : ∀ (d : D) (v : V), At H d v → At H' d v
  | .n, v, h => by unfold At at h ⊢; exact h
  | .b x, v, h => by unfold At at h ⊢; exact h
  | .i x, v, h => by unfold At at h ⊢; exact h
  | .s x, v, h => by unfold At at h ⊢; exact h
  | .t l, v, h => by
    unfold At at h ⊢
    obtain ⟨a, vs, e, ha, r⟩ := h
    exact ⟨a, vs, e, T _ _ ha, AtL.up T l vs r⟩
theorem AtL.up {H H' : Hp} (T : Tups H H') : ∀ (l : List D) (vs : List V), AtL H l vs → AtL H' l vs
  | [], vs, h => by unfold AtL at h ⊢; exact h
  | d :: l, vs, h => by
    unfold AtL at h ⊢
    obtain ⟨v, r, e, h1, h2⟩ := h
    exact ⟨v, r, e, At.up T d v h1, AtL.up T l r h2⟩
end
theorem AtL.length {H : Hp} : ∀ {l : List D} {vs : List V}, AtL H l vs → vs.length = l.length
  | [], vs, h => by unfold AtL at h; rw [h]; rfl
  | d :: l, vs, h => by
    unfold AtL at h
    obtain ⟨v, r, e, _, h2⟩ := h
    rw [e, List.length_cons, List.length_cons, AtL.length h2]
theorem AtL.get {H : Hp} : ∀ {l : List D} {vs : List V} {i : Nat} {d : D}, AtL H l vs → l[i]? = some d → ∃ v, vs[i]? = some v ∧ At H d v
  | [], vs, i, d, h, e => by simp at e
  | d :: l, vs, 0, d', h, e => by
    unfold AtL at h
    obtain ⟨v, r, e1, h1, h2⟩ := h
    have e2 : d = d' := Option.some.inj e
    subst e2
    exact ⟨v, by rw [e1]; rfl, h1⟩
  | d :: l, vs, i + 1, d', h, e => by
    unfold AtL at h
    obtain ⟨v, r, e1, h1, h2⟩ := h
    obtain ⟨u, g, z⟩ := AtL.get h2 (i := i) (d := d') e
    exact ⟨u, by rw [e1]; exact g, z⟩
theorem AtL.get' {H : Hp} {l : List D} {vs : List V} {i : Nat} {v : V} (h : AtL H l vs) (e : vs[i]? = some v) : ∃ d, l[i]? = some d ∧ At H d v := by
  have hl := h.length
  have hi : i < l.length := by
    rw [← hl]
    exact (List.getElem?_eq_some_iff.mp e).1
  obtain ⟨u, g, z⟩ := h.get (i := i) (d := l[i]) (List.getElem?_eq_getElem hi)
  rw [e] at g
  cases g
  exact ⟨l[i], List.getElem?_eq_getElem hi, z⟩
theorem AtL.of {H : Hp} : ∀ {l : List D} {vs : List V}, vs.length = l.length → (∀ (i : Nat) (d : D) (v : V), l[i]? = some d → vs[i]? = some v → At H d v) → AtL H l vs
  | [], vs, hl, h => by
    unfold AtL
    exact List.eq_nil_of_length_eq_zero hl
  | d :: l, [], hl, h => by simp at hl
  | d :: l, v :: r, hl, h => by
    unfold AtL
    exact ⟨v, r, rfl, h 0 d v rfl rfl, AtL.of (by simpa using hl) fun i d' v' e1 e2 => h (i + 1) d' v' e1 e2⟩
theorem AtL.drop {H : Hp} {l : List D} {vs : List V} (h : AtL H l vs) (k : Nat) : AtL H (l.drop k) (vs.drop k) :=
  AtL.of (by rw [List.length_drop, List.length_drop, h.length]) fun i d v e1 e2 => by
    rw [List.getElem?_drop] at e1 e2
    obtain ⟨u, g, z⟩ := h.get e1
    rw [e2] at g
    cases g
    exact z
theorem AtL.take {H : Hp} {l : List D} {vs : List V} (h : AtL H l vs) (k : Nat) : AtL H (l.take k) (vs.take k) :=
  AtL.of (by rw [List.length_take, List.length_take, h.length]) fun i d v e1 e2 => by
    by_cases hi : i < k
    · rw [List.getElem?_take_of_lt hi] at e1 e2
      obtain ⟨u, g, z⟩ := h.get e1
      rw [e2] at g
      cases g
      exact z
    · rw [List.getElem?_take_eq_none (by omega)] at e1
      cases e1
theorem AtL.append {H : Hp} : ∀ {l l' : List D} {vs vs' : List V}, AtL H l vs → AtL H l' vs' → AtL H (l ++ l') (vs ++ vs')
  | [], l', vs, vs', h, h' => by
    unfold AtL at h
    rw [h]
    exact h'
  | d :: l, l', vs, vs', h, h' => by
    unfold AtL at h
    obtain ⟨v, r, e, h1, h2⟩ := h
    rw [e, List.cons_append, List.cons_append]
    unfold AtL
    exact ⟨v, _, rfl, h1, AtL.append h2 h'⟩
theorem AtL.nil {H : Hp} : AtL H [] [] := by unfold AtL; rfl
theorem AtL.cons {H : Hp} {d : D} {l : List D} {v : V} {vs : List V} (h : At H d v) (r : AtL H l vs) : AtL H (d :: l) (v :: vs) := by
  unfold AtL
  exact ⟨v, vs, rfl, h, r⟩
theorem At.int {H : Hp} (n : Int) : At H (.i n) (.int n) := by unfold At; rfl
theorem At.tup {H : Hp} {a : Addr} {vs : List V} {l : List D} (h : H a = some (.tup vs)) (r : AtL H l vs) : At H (.t l) (.ref a) := by
  unfold At
  exact ⟨a, vs, rfl, h, r⟩
theorem At.inv {H : Hp} {l : List D} {v : V} (h : At H (.t l) v) : ∃ a vs, v = .ref a ∧ H a = some (.tup vs) ∧ AtL H l vs := by unfold At at h; exact h
theorem At.iv {H : Hp} {x : Int} {v : V} (h : At H (.i x) v) : v = .int x := by unfold At at h; exact h
theorem At.same {H H' : Hp} {d : D} {v : V} (h : At H d v) (e : Same H H') : At H' d v := At.up (Same.tups e) d v h
theorem AtL.same {H H' : Hp} {d : List D} {v : List V} (h : AtL H d v) (e : Same H H') : AtL H' d v := AtL.up (Same.tups e) d v h
/-- a pair, a row -/
abbrev dP (x : Int × Int) : D := .t [.i x.1, .i x.2]
abbrev dR (r : List (Int × Int)) : D := .t (r.map dP)
theorem At.pair {H : Hp} {x : Int × Int} {v : V} (h : At H (dP x) v) : ∃ a, v = .ref a ∧ H a = some (.tup [.int x.1, .int x.2]) := by
  obtain ⟨a, vs, e, ha, r⟩ := h.inv
  unfold AtL at r
  obtain ⟨v1, r1, e1, h1, r⟩ := r
  unfold AtL at r
  obtain ⟨v2, r2, e2, h2, r⟩ := r
  unfold AtL at r
  refine ⟨a, e, ?_⟩
  rw [ha, e1, e2, r, h1.iv, h2.iv]
theorem At.mkPair {H : Hp} {a : Addr} {x y : Int} (h : H a = some (.tup [.int x, .int y])) : At H (dP (x, y)) (.ref a) :=
  At.tup h (AtL.cons (At.int x) (AtL.cons (At.int y) AtL.nil))

/-! ### the stream of a script -/
structure Strm (c : Addr) (H : Hp) (s : Addr) : Prop where
  ex : ∃ (cs : List Int) (b l bl : Int), H s = some (.lst [.ref c, .int b, .int l, .int bl]) ∧ H c = some (.lst (cs.map V.int)) ∧ (∀ x ∈ cs, 0 ≤ x) ∧ cs.length ≤ 63 ∧ 0 ≤ b ∧ 0 ≤ l ∧ 0 ≤ bl ∧ bl < 4294967296
theorem strm_ne {H : Hp} {s c : Addr} {cs : List Int} {b l bl : Int} (h : H s = some (.lst [.ref c, .int b, .int l, .int bl])) (h' : H c = some (.lst (cs.map V.int))) : c ≠ s := by
  intro e
  subst e
  rw [h] at h'
  cases cs with
  | nil => cases h'
  | cons x r => cases h'
theorem Strm.up {H H' : Hp} {c s : Addr} (h : Strm c H s) (e : Same H H') : Strm c H' s := by
  obtain ⟨cs, b, l, bl, h1, h2, h3⟩ := h.ex
  exact ⟨cs, b, l, bl, e _ _ h1, e _ _ h2, h3⟩
theorem Strm.lst {H : Hp} {c s : Addr} (h : Strm c H s) : ∃ xs, H s = some (.lst xs) := by
  obtain ⟨cs, b, l, bl, h1, _⟩ := h.ex
  exact ⟨_, h1⟩
theorem Strm.new {H : Hp} {c s p : Addr} (h : Strm c H s) (hp : H p = none) : p ≠ s ∧ p ≠ c := by
  obtain ⟨cs, b, l, bl, h1, h2, _⟩ := h.ex
  exact ⟨(ne_of_none h1 hp).symm, (ne_of_none h2 hp).symm⟩
theorem Strm.put {H : Hp} {c s o : Addr} {x : HO} (h : Strm c H s) (ns : o ≠ s) (nc : o ≠ c) : Strm c (upd H o x) s := by
  obtain ⟨cs, b, l, bl, h1, h2, h3⟩ := h.ex
  refine ⟨cs, b, l, bl, ?_, ?_, h3⟩
  · rw [upd_ne (fun e => ns e.symm)]
    exact h1
  · rw [upd_ne (fun e => nc e.symm)]
    exact h2
theorem But.tups {c s : Addr} {H H' : Hp} (h : Strm c H s) (b : But s H H') : Tups H H' := fun a xs e => by
  obtain ⟨ys, hs⟩ := h.lst
  exact b a _ (ne_of e hs (by intro z; cases z)) e
theorem At.but {c s : Addr} {H H' : Hp} {d : D} {v : V} (h : At H d v) (hs : Strm c H s) (b : But s H H') : At H' d v := At.up (But.tups hs b) d v h
theorem AtL.but {c s : Addr} {H H' : Hp} {d : List D} {v : List V} (h : AtL H d v) (hs : Strm c H s) (b : But s H H') : AtL H' d v := AtL.up (But.tups hs b) d v h

/-! ### sizes, places -/
theorem sz1 : 1 ≤ sizeLine := by decide
theorem sz2 : 2 ≤ sizeLine := by decide
theorem sz3 : 3 ≤ sizeLine := by decide
theorem sz4 : 4 ≤ sizeLine := by decide
theorem szM {n : Nat} (h : n ≤ 1000000) : n < sizeLine := Nat.lt_of_le_of_lt h (by decide)
theorem ixN_of {n : Nat} {z : Int} {i : Nat} (e : z = (i : Int)) (h : i < n) : ixN n z = some i := by
  subst e
  unfold ixN
  rw [if_pos (by omega), if_pos (by omega)]
  simp
theorem AtL.set {H : Hp} {l : List D} {vs : List V} {d : D} {v : V} (h : AtL H l vs) (a : At H d v) (k : Nat) : AtL H (l.set k d) (vs.set k v) :=
  AtL.of (by rw [List.length_set, List.length_set, h.length]) fun i d' v' e1 e2 => by
    rw [List.getElem?_set] at e1 e2
    have hl := h.length
    split at e1
    · rename_i hk
      rw [if_pos hk] at e2
      split at e1
      · rw [if_pos (by omega)] at e2
        cases e1
        cases e2
        exact a
      · cases e1
    · rename_i hk
      rw [if_neg hk] at e2
      obtain ⟨u, g, z⟩ := h.get e1
      rw [e2] at g
      cases g
      exact z
theorem But.own {s o : Addr} {H H' : Hp} {x : HO} (b : But s H H') (h : H o = none) : But s H (upd H' o x) := fun c z n e => by
  rw [upd_ne (ne_of_none e h)]
  exact b c z n e
theorem Same.own {o : Addr} {H H' : Hp} {x : HO} (b : Same H H') (h : H o = none) : Same H (upd H' o x) := fun c z e => by
  rw [upd_ne (ne_of_none e h)]
  exact b c z e
/-! ### built-in names that the top leaves alone -/
structure Bi (mg : Str → Option Value) : Prop where
  len : mg "len" = none
  max : mg "max" = none
  min : mg "min" = none
  range : mg "range" = none
  tuple : mg "tuple" = none
  abs : mg "abs" = none
  isinstance : mg "isinstance" = none
  bool : mg "bool" = none
  str : mg "str" = none
  int : mg "int" = none
  sum : mg "sum" = none
  zip : mg "zip" = none
  enumerate : mg "enumerate" = none
  all : mg "all" = none
  any : mg "any" = none
  sorted : mg "sorted" = none
  repr : mg "repr" = none
  list : mg "list" = none
  reversed : mg "reversed" = none
theorem rel_ty (n : String) : RelV (.ty n) (.type n) := rfl
theorem lcYes {σ : L2.St} {H : Hp} {A B : Hp → Prop} (h : A H) : tYes σ H (fun b H3 => if b = true then A H3 else B H3) := by
  show if true = true then A H else B H
  exact iteT h
/-! ### rules that speak of the written part by its own name -/
section
variable {X : Cx} {K : PySem.W.Frag}
theorem ixT_ (h : X.K = K) : IxR X (rIxT K) := by subst h; exact ix_tup
theorem ixL_ (h : X.K = K) : IxR X (rIxL K) := by subst h; exact ix_list
theorem slL_ (h : X.K = K) : SlR X (rSlL K) := by subst h; exact sl_list
theorem slT_ (h : X.K = K) : SlR X (rSlA K) := by subst h; exact sl_tupA
theorem len_ (h : X.K = K) : CallR X (.builtin "len") (fun xs H Q => ∃ p ys, xs = [.ref p] ∧ (SqL K H p ys ∨ SqT K H p ys) ∧ Q (.int ys.length) H) := by subst h; exact call_len_seq
theorem tuple_ (h : X.K = K) : CallR X (.type "tuple") (fun xs H Q => ∃ p ys, xs = [.ref p] ∧ ((SqL K H p ys ∧ ∀ l, H l = none → Q (.ref l) (upd H l (.tup ys))) ∨ (SqT K H p ys ∧ Q (.ref p) H))) := by subst h; exact call_tuple_of
theorem isi_ (h : X.K = K) : CallR X (.builtin "isinstance") (rIsi K) := by subst h; exact call_isi
theorem isiT_ (h : X.K = K) : CallR X (.builtin "isinstance") (rIsiT K) := by subst h; exact call_isiT
theorem sum_ (hc : X.calm = true) (h : X.K = K) : CallR X (.builtin "sum") (rSum K) := by subst h; exact cr_sum hc
theorem max_ (hc : X.calm = true) (h : X.K = K) : CallR X (.builtin "max") (rMax K) := by subst h; exact cr_max hc
theorem min_ (hc : X.calm = true) (h : X.K = K) : CallR X (.builtin "min") (rMin K) := by subst h; exact cr_min hc
theorem all_ (hc : X.calm = true) (h : X.K = K) : CallR X (.builtin "all") (rAll K) := by subst h; exact cr_all hc
theorem eqD_ (hu : X.A.units + 64 < cLine) (h : X.K = K) : OpR X (compareOp .Eq) (rEqD K) := by subst h; exact op_eqD hu
theorem neD_ (hu : X.A.units + 64 < cLine) (h : X.K = K) : OpR X (compareOp .NotEq) (rNeD K) := by subst h; exact op_neD hu
end
/-! ### slices of tuples -/
theorem slA_take {K : PySem.W.Frag} {H : Hp} {l : List D} {v : V} {z : Int} {k : Nat} {Q : VK} (h : At H (.t l) v) (e : z = (k : Int)) (q : ∀ H' u, Same H H' → At H' (.t (l.take k)) u → Q u H') : rSlA K v none (some z) H Q := by
  subst e
  obtain ⟨a, vs, rfl, ha, av⟩ := h.inv
  refine ⟨a, vs, rfl, .inl (.inl ha), fun hw => ?_, fun hw p np => ?_⟩
  · have h2 := hw.2
    rw [HT.sIx_nat] at h2
    have hk : l.length ≤ k := by rw [← av.length]; omega
    refine q H _ (Same.refl _) ?_
    rw [List.take_of_length_le hk]
    exact h
  · refine q _ _ (Same.new np) (At.tup upd_same ?_)
    have ec : cutV vs none (some (k : Int)) = vs.take k := by
      unfold cutV
      rw [HT.sIx_none, HT.sIx_nat, List.drop_zero, Nat.sub_zero]
      by_cases hk : k ≤ vs.length
      · rw [Nat.min_eq_left hk]
      · rw [Nat.min_eq_right (by omega), List.take_of_length_le (Nat.le_refl _), List.take_of_length_le (by omega)]
    rw [ec]
    exact (av.take k).same (Same.new np)
theorem slA_drop {K : PySem.W.Frag} {H : Hp} {l : List D} {v : V} {z : Int} {k : Nat} {Q : VK} (h : At H (.t l) v) (e : z = (k : Int)) (q : ∀ H' u, Same H H' → At H' (.t (l.drop k)) u → Q u H') : rSlA K v (some z) none H Q := by
  subst e
  obtain ⟨a, vs, rfl, ha, av⟩ := h.inv
  refine ⟨a, vs, rfl, .inl (.inl ha), fun hw => ?_, fun hw p np => ?_⟩
  · have h2 := hw.1
    rw [HT.sIx_nat] at h2
    have hk : k = 0 ∨ l.length = 0 := by rw [← av.length]; omega
    refine q H _ (Same.refl _) ?_
    have el : l.drop k = l := by
      rcases hk with hk | hk
      · rw [hk]; rfl
      · rw [List.eq_nil_of_length_eq_zero hk]; exact List.drop_nil
    rw [el]
    exact h
  · refine q _ _ (Same.new np) (At.tup upd_same ?_)
    have ec : cutV vs (some (k : Int)) none = vs.drop k := by
      unfold cutV
      rw [HT.sIx_none, HT.sIx_nat]
      by_cases hk : k ≤ vs.length
      · rw [Nat.min_eq_left hk]
        exact List.take_of_length_le (by rw [List.length_drop]; omega)
      · rw [Nat.min_eq_right (by omega), List.drop_eq_nil_of_le (Nat.le_refl _), List.drop_eq_nil_of_le (show vs.length ≤ k by omega)]
        exact List.take_nil
    rw [ec]
    exact (av.drop k).same (Same.new np)
theorem slA_dropN {σ : L2.St} {K : PySem.W.Frag} {H : Hp} {l : List D} {v : V} {z : Int} {k : Nat} {Q : VK} (h : At H (.t l) v) (e : z = (k : Int)) (q : ∀ H' u, Same H H' → At H' (.t (l.drop k)) u → Q u H') : tNoPart σ H fun o H3 => rSlA K v (some z) o H3 Q :=
  slA_drop h e q
def spLaw (K : PySem.W.Frag) : Sp := fun vs H Q _ => ∃ (a : Addr) (ns : List Int), vs = [.ref a] ∧ SqL K H a (ns.map V.int) ∧ ns.length ≤ 63 ∧ ∀ H', Q (.bl true) H'
/-! ### depth -/
def Dep : Nat → D → Prop
  | 0, .t _ => False
  | k + 1, .t l => l.length ≤ 1000000 ∧ ∀ d ∈ l, Dep k d
  | _, _ => True
theorem Dep.mono : ∀ {k : Nat} {d : D}, Dep k d → Dep (k + 1) d
  | 0, .t _, h => h.elim
  | k + 1, .t l, h => ⟨h.1, fun d hd => Dep.mono (h.2 d hd)⟩
  | 0, .n, _ => trivial
  | 0, .b _, _ => trivial
  | 0, .i _, _ => trivial
  | 0, .s _, _ => trivial
  | k + 1, .n, _ => trivial
  | k + 1, .b _, _ => trivial
  | k + 1, .i _, _ => trivial
  | k + 1, .s _, _ => trivial
theorem Dep.row {ps : List (Int × Int)} (h : ps.length ≤ 1000000) : Dep 2 (dR ps) := by
  refine ⟨by rw [List.length_map]; exact h, fun d hd => ?_⟩
  obtain ⟨x, _, rfl⟩ := List.mem_map.mp hd
  refine ⟨(show 2 ≤ 1000000 by decide), fun e he => ?_⟩
  rcases List.mem_cons.mp he with h | h
  · rw [h]; trivial
  · rw [List.mem_singleton.mp h]; trivial
theorem Dep.pair (x : Int × Int) : Dep 1 (dP x) := by
  refine ⟨(show 2 ≤ 1000000 by decide), fun e he => ?_⟩
  rcases List.mem_cons.mp he with h | h
  · rw [h]; trivial
  · rw [List.mem_singleton.mp h]; trivial
/-! ### calls in short -/
abbrev FnP (K : PySem.W.Frag) (x : Str) (st : Stmt) (f : Addr) (fd : FuncData) : Prop := FunD K x x (defArgs st) (defBody st) (defScope st) [] [] f fd
/-- the module's name x is a def that keeps sp at level k -/
structure Cl (P : Program) (w : World) (K : PySem.W.Frag) (mg : Str → Option Value) (base : Heap) (k : Nat) (x : Str) (ps : List Str) (sp : Sp) : Prop where
  ex : ∃ (f : Addr) (fd : FuncData), mg x = some (.ref f) ∧ PySem.W.keepIn K (.ref f) = true ∧ Binds K fd ps [] ∧ FnOk P w K mg base CX0 k f fd ps sp
theorem Cl.mono {P : Program} {w : World} {K : PySem.W.Frag} {mg : Str → Option Value} {base : Heap} {j k : Nat} {x : Str} {ps : List Str} {sp : Sp} (c : Cl P w K mg base j x ps sp) (h : j ≤ k) : Cl P w K mg base k x ps sp := by
  obtain ⟨f, fd, a, b, d, e⟩ := c.ex
  exact ⟨f, fd, a, b, d, e.mono h⟩
theorem pe_cl {X : Cx} {k : Nat} {x : Str} {ps : List Str} {sp : Sp} {e : Expr} {es : List Expr} {t : TA} {p pos : Pos} (c : Cl X.prog X.w X.K X.mg X.base k x ps sp) (hr : Room k X.A) (hg : Gl X x) (ha : PA X (e :: es) t)
    (hdb : (x == ("__debug__" : Str)) = false := by decide) (he : starEach (e :: es) X.env = (false, eval e X.env) :: starEach es X.env := by rfl) (hpl : (backTo pos (starEach es X.env)).any (·.1) = false := by rfl) :
    PE X (.Call (.Name x p) (e :: es) [] pos) (tCall sp [] E0 t) := by
  obtain ⟨f, fd, a, b, d, F⟩ := c.ex
  exact pe_call F hr hg a b d .nil pass0 ha hdb he hpl
/-! ### the mathematics of pairs and rows -/
/-- what is gained and the deepest dip, from t and d on -/
def dipf : List (Int × Int) → Int → Int → Int × Int
  | [], t, d => (t, d)
  | x :: r, t, d => dipf r (t - x.1 + x.2) (if t - x.1 < d then t - x.1 else d)
def inOne (ps : List (Int × Int)) : Int × Int := (0 - (dipf ps 0 0).2, (dipf ps 0 0).1 - (dipf ps 0 0).2)
def jn (x y : Int × Int) : Int × Int := (x.1 + (if y.1 - x.2 > 0 then y.1 - x.2 else 0), y.2 + (if x.2 - y.1 > 0 then x.2 - y.1 else 0))
theorem dipf_append : ∀ (a b : List (Int × Int)) (t d : Int), dipf (a ++ b) t d = dipf b (dipf a t d).1 (dipf a t d).2
  | [], b, t, d => rfl
  | x :: a, b, t, d => by
    rw [List.cons_append]
    exact dipf_append a b _ _
theorem dipf_take {ps : List (Int × Int)} {i : Nat} {r : Int × Int} (h : ps[i]? = some r) (t d : Int) :
    dipf (ps.take (i + 1)) t d = ((dipf (ps.take i) t d).1 - r.1 + r.2, if (dipf (ps.take i) t d).1 - r.1 < (dipf (ps.take i) t d).2 then (dipf (ps.take i) t d).1 - r.1 else (dipf (ps.take i) t d).2) := by
  rw [List.take_add_one, h, dipf_append]
  rfl
theorem foldl_take {α β : Type} {f : β → α → β} {x : β} {ps : List α} {i : Nat} {r : α} (h : ps[i]? = some r) : (ps.take (i + 1)).foldl f x = f ((ps.take i).foldl f x) r := by
  rw [List.take_add_one, h, List.foldl_append]
  rfl
theorem jn_assoc (x y z : Int × Int) : jn (jn x y) z = jn x (jn y z) := by
  unfold jn
  refine Prod.ext ?_ ?_
  · dsimp only
    repeat' split
    all_goals omega
  · dsimp only
    repeat' split
    all_goals omega
theorem jn_zero {x : Int × Int} (h : 0 ≤ x.1) : jn (0, 0) x = x := by
  unfold jn
  refine Prod.ext ?_ ?_
  · dsimp only
    split <;> omega
  · dsimp only
    split <;> omega
theorem jn_zero' {x : Int × Int} (h : 0 ≤ x.2) : jn x (0, 0) = x := by
  unfold jn
  refine Prod.ext ?_ ?_
  · dsimp only
    split <;> omega
  · dsimp only
    split <;> omega
def Nn (x : Int × Int) : Prop := 0 ≤ x.1 ∧ 0 ≤ x.2
theorem jn_nn {x y : Int × Int} (hx : Nn x) (hy : Nn y) : Nn (jn x y) := by
  obtain ⟨h1, h2⟩ := hx
  obtain ⟨h3, h4⟩ := hy
  unfold jn Nn
  dsimp only
  constructor <;> split <;> omega
def wl : List (Int × Int) → Int × Int
  | [] => (0, 0)
  | x :: r => jn x (wl r)
theorem wl_nn : ∀ {ps : List (Int × Int)}, (∀ x ∈ ps, Nn x) → Nn (wl ps)
  | [], _ => ⟨by decide, by decide⟩
  | x :: r, h => jn_nn (h x (List.mem_cons_self ..)) (wl_nn fun y hy => h y (List.mem_cons_of_mem _ hy))
theorem dipf_wl : ∀ (ps : List (Int × Int)) (t d : Int), (∀ x ∈ ps, Nn x) → dipf ps t d = (t + (wl ps).2 - (wl ps).1, if ps = [] then d else if t - (wl ps).1 < d then t - (wl ps).1 else d)
  | [], t, d, _ => by
    unfold dipf wl
    refine Prod.ext ?_ ?_
    · dsimp only
      omega
    · rfl
  | x :: r, t, d, h => by
    have hx := h x (List.mem_cons_self ..)
    have hr := wl_nn (ps := r) fun y hy => h y (List.mem_cons_of_mem _ hy)
    have ih := dipf_wl r (t - x.1 + x.2) (if t - x.1 < d then t - x.1 else d) fun y hy => h y (List.mem_cons_of_mem _ hy)
    show dipf r _ _ = _
    have hz : r = [] → wl r = (0, 0) := fun e => by rw [e]; rfl
    rw [ih, if_neg (List.cons_ne_nil x r), show wl (x :: r) = jn x (wl r) from rfl]
    obtain ⟨h1, h2⟩ := hx
    obtain ⟨h3, h4⟩ := hr
    generalize wl r = m at *
    unfold jn
    refine Prod.ext ?_ ?_
    · dsimp only
      repeat' split
      all_goals omega
    · dsimp only
      by_cases e : r = []
      · have hm := hz e
        subst hm
        rw [if_pos e]
        dsimp only
        repeat' split
        all_goals omega
      · rw [if_neg e]
        repeat' split
        all_goals omega
theorem inOne_wl {ps : List (Int × Int)} (h : ∀ x ∈ ps, Nn x) : inOne ps = wl ps := by
  have hn := wl_nn h
  unfold inOne
  rw [dipf_wl ps 0 0 h]
  obtain ⟨h3, h4⟩ := hn
  by_cases e : ps = []
  · subst e
    rfl
  · refine Prod.ext ?_ ?_
    · dsimp only
      rw [if_neg e]
      split <;> omega
    · dsimp only
      rw [if_neg e]
      split <;> omega
theorem foldl_wl : ∀ (ps : List (Int × Int)) (x : Int × Int), 0 ≤ x.2 → (∀ y ∈ ps, Nn y) → ps.foldl jn x = jn x (wl ps)
  | [], x, h, _ => (jn_zero' h).symm
  | y :: r, x, h, hn => by
    show r.foldl jn (jn x y) = jn x (jn y (wl r))
    rw [← jn_assoc]
    refine foldl_wl r (jn x y) ?_ fun z hz => hn z (List.mem_cons_of_mem _ hz)
    obtain ⟨h3, h4⟩ := hn y (List.mem_cons_self ..)
    unfold jn
    dsimp only
    split <;> omega
theorem whole_wl {ps : List (Int × Int)} (h : ∀ x ∈ ps, Nn x) : ps.foldl jn (0, 0) = wl ps := by
  rw [foldl_wl ps (0, 0) (by decide) h]
  exact jn_zero (wl_nn h).1
theorem wl_append : ∀ (a b : List (Int × Int)), (∀ x ∈ b, Nn x) → wl (a ++ b) = jn (wl a) (wl b)
  | [], b, h => (jn_zero (wl_nn h).1).symm
  | x :: a, b, h => by
    show jn x (wl (a ++ b)) = jn (jn x (wl a)) (wl b)
    rw [wl_append a b h, jn_assoc]
theorem nn_take {ps : List (Int × Int)} (h : ∀ x ∈ ps, Nn x) (k : Nat) : ∀ x ∈ ps.take k, Nn x := fun x hx => h x (List.mem_of_mem_take hx)
theorem nn_drop {ps : List (Int × Int)} (h : ∀ x ∈ ps, Nn x) (k : Nat) : ∀ x ∈ ps.drop k, Nn x := fun x hx => h x (List.mem_of_mem_drop hx)
theorem wl_cut {ps : List (Int × Int)} (h : ∀ x ∈ ps, Nn x) (k : Nat) : jn (wl (ps.take k)) (wl (ps.drop k)) = wl ps := by
  rw [← wl_append _ _ (nn_drop h k), List.take_append_drop]
theorem one_cut {ps : List (Int × Int)} (h : ∀ x ∈ ps, Nn x) (k : Nat) : jn (inOne (ps.take k)) (inOne (ps.drop k)) = inOne ps := by
  rw [inOne_wl h, inOne_wl (nn_take h k), inOne_wl (nn_drop h k), wl_cut h]
theorem whole_cut {ps : List (Int × Int)} (h : ∀ x ∈ ps, Nn x) (k : Nat) : jn ((ps.take k).foldl jn (0, 0)) ((ps.drop k).foldl jn (0, 0)) = inOne ps := by
  rw [inOne_wl h, whole_wl (nn_take h k), whole_wl (nn_drop h k), wl_cut h]
theorem nn_three {x y z : Int × Int} (hx : Nn x) (hy : Nn y) (hz : Nn z) : ∀ u ∈ [x, y, z], Nn u := fun u hu => by
  rcases List.mem_cons.mp hu with h | h
  · rw [h]; exact hx
  rcases List.mem_cons.mp h with h | h
  · rw [h]; exact hy
  · rw [List.mem_singleton.mp h]; exact hz
theorem three_b {x y z : Int × Int} (hx : Nn x) (hy : Nn y) (hz : Nn z) : jn x (jn y z) = inOne [x, y, z] := by
  rw [inOne_wl (nn_three hx hy hz)]
  show _ = jn x (jn y (jn z (0, 0)))
  rw [jn_zero' hz.2]
theorem three_a {x y z : Int × Int} (hx : Nn x) (hy : Nn y) (hz : Nn z) : jn (jn x y) z = inOne [x, y, z] := by
  rw [jn_assoc, three_b hx hy hz]
/-! ### tuple * int, all ways -/
theorem tup_mul_same (l : Addr) (items : Array Value) (n : Nat) (dd : Option Addr) (sl : Array (Option Value)) (x : Int) (u : Tok) (c0 : (decide (x < -(2 ^ 63)) || decide (x ≥ 2 ^ 63)) = false) (c1 : (items.isEmpty || x == 1) = true) :
    Meets (Builtin.«tuple.__mul__» ⟨[.ref l, .int x u], []⟩) (fun _ R s => s.heap.get? l = some { cls := .type "tuple", dict := dd, data := .seq items n, slots := sl } ∧ R (.ok (.ret (Value.ref l))) { s with heap := s.heap, toks := s.toks }) :=
  .of_wp fun prog w A R s h => by
    obtain ⟨hp, g, d, tk, os⟩ := s
    obtain ⟨hl, h⟩ := h
    have f1 := AutoSeq1.idx_int
    wp_walk using wpAny_loadPart' hl
    repeat (first
      | (refine wpAny_ite_false (decide_eq_false (by rw [c0]; exact Bool.false_ne_true)) ?_; wp_walk using wpAny_loadPart' hl)
      | (refine wpAny_ite_true (decide_eq_true c1) ?_; wp_walk using wpAny_loadPart' hl))
    exact ⟨_, rfl, h⟩
theorem tup_mul_none (l : Addr) (items : Array Value) (n : Nat) (dd : Option Addr) (sl : Array (Option Value)) (x : Int) (u : Tok) (c0 : (decide (x < -(2 ^ 63)) || decide (x ≥ 2 ^ 63)) = false) (c1 : (items.isEmpty || x == 1) = false) (c2 : (decide (x ≤ 0) || items.isEmpty) = true) :
    Meets (Builtin.«tuple.__mul__» ⟨[.ref l, .int x u], []⟩) (fun _ R s => s.heap.get? l = some { cls := .type "tuple", dict := dd, data := .seq items n, slots := sl } ∧
      R (.ok (.ret (Value.ref s.heap.objs.size))) { s with heap := s.heap.push { cls := Value.type "tuple", data := Data.seq #[] }, toks := s.toks }) :=
  .of_wp fun prog w A R s h => by
    obtain ⟨hp, g, d, tk, os⟩ := s
    obtain ⟨hl, h⟩ := h
    have f1 := AutoSeq1.idx_int
    wp_walk using wpAny_loadPart' hl
    repeat (first
      | (refine wpAny_ite_false (decide_eq_false (by rw [c0]; exact Bool.false_ne_true)) ?_; wp_walk using wpAny_loadPart' hl)
      | (refine wpAny_ite_false (decide_eq_false (by rw [c1]; exact Bool.false_ne_true)) ?_; wp_walk using wpAny_loadPart' hl)
      | (refine wpAny_ite_true (decide_eq_true c2) ?_; wp_walk using wpAny_loadPart' hl))
    exact ⟨_, rfl, h⟩
def rRepA (K : PySem.W.Frag) : R2 := fun x y H Q => ∃ l k xs, x = .ref l ∧ y = .int k ∧ SqT K H l xs ∧ 0 ≤ k ∧ k ≤ 1000 ∧ xs.length ≤ 1000 ∧ ((xs = [] ∨ k = 1) → Q (.ref l) H) ∧ (¬ (xs = [] ∨ k = 1) → ∀ p, H p = none → Q (.ref p) (upd H p (.tup (List.replicate k.toNat xs).flatten)))
theorem op_repA {X : Cx} : OpR X (binaryOp .Mult) (rRepA X.K) := by
  intro pins s σ H x y v u Q I rx ry h
  obtain ⟨l, k, xs, rfl, rfl, hT, h0, h2, hz, q1, q2⟩ := h
  by_cases hk : xs ≠ [] ∧ 2 ≤ k
  · exact op_repT pins s σ H _ _ v u Q I rx ry ⟨l, k, xs, rfl, rfl, hT, hk.1, hk.2, h2, hz, q2 (by intro z; rcases z with z | z; exact hk.1 z; omega)⟩
  cases rx
  obtain ⟨t, rfl⟩ := ry
  obtain ⟨its, r, ⟨⟨cls, dd, data, sl⟩, ho, hc, n, hd⟩, hs⟩ := I.tuple hT
  simp only at hc hd
  subst hc hd
  have hle : its.length = xs.length := r.length.symm
  have c0 : (decide (k < -(2 ^ 63)) || decide (k ≥ 2 ^ 63)) = false := by
    rw [decide_eq_false (by omega), decide_eq_false (by omega)] <;> rfl
  by_cases hs1 : xs = [] ∨ k = 1
  · have c1 : (its.toArray.isEmpty || k == 1) = true := by
      rcases hs1 with e | e
      · rw [e] at hle
        rw [List.eq_nil_of_length_eq_zero hle]
        rfl
      · subst e
        rw [Bool.or_eq_true]
        exact .inr rfl
    refine wpAny_binaryOp_repeat_ref (T := "tuple") (U := "int") (by decide) ⟨_, ho, rfl⟩ (fun s' => typeIs_int s' k t) noFill_tuple_mul F.fills_int_mul F.slot_int_rmul repeat_tuple F.slot_int_index.lookup
      (call_meets F.slot_int_rmul (typeIs_int s k t) F.entry_int_rmul (F.args_int_rmul_2 _ _) (int_rmul_tuple k t l its.toArray n dd sl)
        ⟨ho, rfl, ⟨_, ho, rfl⟩, call_meets F.slot_tuple_mul ⟨_, ho, rfl⟩ F.entry_tuple_mul (F.args_tuple_mul_2 _ _) (tup_mul_same l its.toArray n dd sl k t c0 c1) ⟨ho, ?_⟩⟩)
    exact ⟨.ref l, H, I, rfl, q1 hs1⟩
  · have hk0 : k = 0 := by
      rcases Classical.em (xs = []) with e | e
      · exact absurd (.inl e) hs1
      · rcases Classical.em (2 ≤ k) with e2 | e2
        · exact absurd ⟨e, e2⟩ hk
        · have := fun z => hs1 (.inr z)
          omega
    subst hk0
    have hne : xs ≠ [] := fun e => hs1 (.inl e)
    have hi : its.toArray.isEmpty = false := by
      cases its with
      | nil => exact absurd (List.eq_nil_of_length_eq_zero hle.symm) hne
      | cons a b => rfl
    have c1 : (its.toArray.isEmpty || (0 : Int) == 1) = false := by rw [hi]; rfl
    refine wpAny_binaryOp_repeat_ref (T := "tuple") (U := "int") (by decide) ⟨_, ho, rfl⟩ (fun s' => typeIs_int s' 0 t) noFill_tuple_mul F.fills_int_mul F.slot_int_rmul repeat_tuple F.slot_int_index.lookup
      (call_meets F.slot_int_rmul (typeIs_int s 0 t) F.entry_int_rmul (F.args_int_rmul_2 _ _) (int_rmul_tuple 0 t l its.toArray n dd sl)
        ⟨ho, rfl, ⟨_, ho, rfl⟩, call_meets F.slot_tuple_mul ⟨_, ho, rfl⟩ F.entry_tuple_mul (F.args_tuple_mul_2 _ _) (tup_mul_none l its.toArray n dd sl 0 t c0 c1 rfl) ⟨ho, ?_⟩⟩)
    refine ⟨.ref s.heap.objs.size, _, I.laid (t' := s.toks) (o := .tup []) (fun b ob q => Heap.get?_push_of_some _ q) (Nat.le_refl _) ?_, rfl, q2 hs1 _ (I.hok.fresh (Nat.le_refl _))⟩
    exact ⟨Nat.zero_le _, [], .nil, IsTup.new _ _⟩
theorem repA_ {X : Cx} {K : PySem.W.Frag} (h : X.K = K) : OpR X (binaryOp .Mult) (rRepA K) := by subst h; exact op_repA
theorem AtL.rep {H : Hp} {l : List D} {vs : List V} (h : AtL H l vs) : ∀ k : Nat, AtL H (List.replicate k l).flatten (List.replicate k vs).flatten
  | 0 => AtL.nil
  | k + 1 => by
    rw [List.replicate_succ, List.replicate_succ, List.flatten_cons, List.flatten_cons]
    exact AtL.append h (AtL.rep h k)
theorem repA_at {K : PySem.W.Frag} {H : Hp} {l : List D} {v : V} {k : Int} {Q : VK} (h : At H (.t l) v) (h0 : 0 ≤ k) (h1 : k ≤ 1000) (hl : l.length ≤ 1000) (q : ∀ H' u, Same H H' → At H' (.t (List.replicate k.toNat l).flatten) u → Q u H') : rRepA K v (.int k) H Q := by
  obtain ⟨a, vs, rfl, ha, av⟩ := h.inv
  refine ⟨a, k, vs, rfl, rfl, .inl (.inl ha), h0, h1, by rw [av.length]; exact hl, fun hw => ?_, fun hw p np => ?_⟩
  · refine q H _ (Same.refl _) ?_
    have el : (List.replicate k.toNat l).flatten = l := by
      rcases hw with e | e
      · rw [e] at av
        have hl0 : l = [] := List.eq_nil_of_length_eq_zero av.length.symm
        subst hl0
        exact List.eq_nil_iff_forall_not_mem.mpr fun x hx => by
          obtain ⟨y, hy, hxy⟩ := List.mem_flatten.mp hx
          rw [(List.mem_replicate.mp hy).2] at hxy
          cases hxy
      · subst e
        show (List.replicate 1 l).flatten = l
        rw [List.replicate_one, List.flatten_singleton]
    rw [el]
    exact h
  · exact q _ _ (Same.new np) (At.tup upd_same ((av.rep k.toNat).same (Same.new np)))
/-! ### so many times one pair -/
def pw (x : Int × Int) (k : Int) : Int × Int := if k = 0 then (0, 0) else if 0 ≤ k * (x.2 - x.1) then (x.1, x.1 + k * (x.2 - x.1)) else (x.2 - k * (x.2 - x.1), x.2)
theorem pw_zero (x : Int × Int) : pw x 0 = (0, 0) := by unfold pw; rw [if_pos rfl]
theorem pw_up {x : Int × Int} {k : Int} (hk : 0 < k) (h : x.1 ≤ x.2) : pw x k = (x.1, x.1 + k * (x.2 - x.1)) := by
  unfold pw
  rw [if_neg (by omega), if_pos (Int.mul_nonneg (by omega) (by omega))]
theorem pw_down {x : Int × Int} {k : Int} (hk : 0 < k) (h : x.2 < x.1) : pw x k = (x.2 - k * (x.2 - x.1), x.2) := by
  unfold pw
  have e : k * (x.2 - x.1) < 0 := Int.mul_neg_of_pos_of_neg hk (by omega)
  rw [if_neg (by omega), if_neg (by omega)]
theorem pw_one (x : Int × Int) : pw x 1 = x := by
  by_cases h : x.1 ≤ x.2
  · rw [pw_up (by decide) h, Int.one_mul]
    exact Prod.ext rfl (by dsimp only; omega)
  · rw [pw_down (by decide) (by omega), Int.one_mul]
    exact Prod.ext (by dsimp only; omega) rfl
theorem pw_nn {x : Int × Int} {k : Int} (hx : Nn x) (hk : 0 ≤ k) : Nn (pw x k) := by
  by_cases h0 : k = 0
  · subst h0; rw [pw_zero]; exact ⟨by decide, by decide⟩
  obtain ⟨h1, h2⟩ := hx
  by_cases h : x.1 ≤ x.2
  · rw [pw_up (by omega) h]
    have := Int.mul_nonneg hk (show 0 ≤ x.2 - x.1 by omega)
    exact ⟨h1, by dsimp only; omega⟩
  · rw [pw_down (by omega) (by omega)]
    have := Int.mul_neg_of_pos_of_neg (show 0 < k by omega) (show x.2 - x.1 < 0 by omega)
    exact ⟨by dsimp only; omega, h2⟩
theorem pw_add {x : Int × Int} {a b : Int} (hx : Nn x) (ha : 0 ≤ a) (hb : 0 ≤ b) : pw x (a + b) = jn (pw x a) (pw x b) := by
  by_cases ha0 : a = 0
  · subst ha0
    rw [Int.zero_add, pw_zero, jn_zero (pw_nn hx hb).1]
  by_cases hb0 : b = 0
  · subst hb0
    rw [Int.add_zero, pw_zero, jn_zero' (pw_nn hx ha).2]
  obtain ⟨h1, h2⟩ := hx
  by_cases h : x.1 ≤ x.2
  · rw [pw_up (by omega) h, pw_up (by omega) h, pw_up (by omega) h, Int.add_mul]
    have e1 := Int.mul_nonneg ha (show 0 ≤ x.2 - x.1 by omega)
    have e2 := Int.mul_nonneg hb (show 0 ≤ x.2 - x.1 by omega)
    generalize a * (x.2 - x.1) = p at *
    generalize b * (x.2 - x.1) = r at *
    unfold jn
    refine Prod.ext ?_ ?_
    · dsimp only
      split <;> omega
    · dsimp only
      split <;> omega
  · rw [pw_down (by omega) (by omega), pw_down (by omega) (by omega), pw_down (by omega) (by omega), Int.add_mul]
    have e1 := Int.mul_neg_of_pos_of_neg (show 0 < a by omega) (show x.2 - x.1 < 0 by omega)
    have e2 := Int.mul_neg_of_pos_of_neg (show 0 < b by omega) (show x.2 - x.1 < 0 by omega)
    generalize a * (x.2 - x.1) = p at *
    generalize b * (x.2 - x.1) = r at *
    unfold jn
    refine Prod.ext ?_ ?_
    · dsimp only
      split <;> omega
    · dsimp only
      split <;> omega
theorem pw_succ {x : Int × Int} {a : Int} (hx : Nn x) (ha : 0 ≤ a) : pw x (a + 1) = jn x (pw x a) := by
  rw [Int.add_comm, pw_add hx (by decide) ha, pw_one]
theorem pw_mul {x : Int × Int} {a b : Int} (hx : Nn x) (ha : 0 ≤ a) (hb : 0 ≤ b) : pw (pw x a) b = pw x (a * b) := by
  by_cases ha0 : a = 0
  · subst ha0
    rw [Int.zero_mul, pw_zero]
    by_cases hb0 : b = 0
    · subst hb0; rw [pw_zero]
    · rw [pw_up (by omega) (Int.le_refl _)]
      exact Prod.ext rfl (by dsimp only; omega)
  by_cases hb0 : b = 0
  · subst hb0
    rw [Int.mul_zero, pw_zero, pw_zero]
  have hab : 0 < a * b := Int.mul_pos (by omega) (by omega)
  have ec : b * (a * (x.2 - x.1)) = a * b * (x.2 - x.1) := by rw [← Int.mul_assoc, Int.mul_comm b a]
  by_cases h : x.1 ≤ x.2
  · have e1 := Int.mul_nonneg ha (show 0 ≤ x.2 - x.1 by omega)
    rw [pw_up (x := x) (by omega) h, pw_up (x := x) hab h, pw_up (by omega) (by dsimp only; omega)]
    refine Prod.ext rfl ?_
    dsimp only
    rw [show x.1 + a * (x.2 - x.1) - x.1 = a * (x.2 - x.1) by omega, ec]
  · have e1 := Int.mul_neg_of_pos_of_neg (show 0 < a by omega) (show x.2 - x.1 < 0 by omega)
    rw [pw_down (x := x) (by omega) (by omega), pw_down (x := x) hab (by omega), pw_down (by omega) (by dsimp only; omega)]
    refine Prod.ext ?_ rfl
    dsimp only
    rw [show x.2 - (x.2 - a * (x.2 - x.1)) = a * (x.2 - x.1) by omega, ec]
theorem pw_wl {x : Int × Int} (hx : Nn x) : ∀ n : Nat, wl (List.replicate n x) = pw x n
  | 0 => (pw_zero x).symm
  | n + 1 => by
    rw [List.replicate_succ]
    show jn x (wl (List.replicate n x)) = _
    rw [pw_wl hx n, Int.natCast_add, Int.natCast_one, pw_succ hx (Int.natCast_nonneg n)]
theorem pw_one_row {x : Int × Int} (hx : Nn x) (k : Int) (hk : 0 ≤ k) : inOne (List.replicate k.toNat x) = pw x k := by
  rw [inOne_wl fun y hy => by rw [(List.mem_replicate.mp hy).2]; exact hx, pw_wl hx, Int.toNat_of_nonneg hk]
theorem rep_flat {α : Type} (x : α) : ∀ n : Nat, (List.replicate n [x]).flatten = List.replicate n x
  | 0 => rfl
  | n + 1 => by
    rw [List.replicate_succ, List.flatten_cons, rep_flat x n, List.replicate_succ]
    rfl
theorem lt_pow {n a b : Nat} (h : n < 2 ^ a) (hab : a ≤ b) : n < 2 ^ b := Nat.lt_of_lt_of_le h (Nat.pow_le_pow_right (by decide) hab)
/-- sizes -/
theorem mul_lt {i j : Int} {a b : Nat} (hi : i.natAbs < 2 ^ a) (hj : j.natAbs < 2 ^ b) : (i * j).natAbs < 2 ^ (a + b) := by
  rw [Int.natAbs_mul, Nat.pow_add]
  exact Nat.mul_lt_mul'' hi hj
theorem pw_sz {x : Int × Int} {k : Int} {a b : Nat} (h1 : x.1.natAbs < 2 ^ a) (h2 : x.2.natAbs < 2 ^ a) (hk : k.natAbs < 2 ^ b) : (pw x k).1.natAbs < 2 ^ (a + b + 2) ∧ (pw x k).2.natAbs < 2 ^ (a + b + 2) := by
  have hd : (x.2 - x.1).natAbs < 2 ^ (a + 1) := by
    rw [Nat.pow_succ]
    omega
  have hm := mul_lt hk hd
  have ha : 2 ^ a ≤ 2 ^ (a + b) := Nat.pow_le_pow_right (by decide) (by omega)
  have e : b + (a + 1) = a + b + 1 := by omega
  rw [e] at hm
  have e1 : 2 ^ (a + b + 1) = 2 ^ (a + b) * 2 := Nat.pow_succ ..
  have e2 : 2 ^ (a + b + 2) = 2 ^ (a + b) * 4 := by rw [Nat.pow_add]
  have e3 : 0 < 2 ^ (a + b) := Nat.pow_pos (by decide)
  unfold pw
  split
  · exact ⟨by show 0 < _; omega, by show 0 < _; omega⟩
  split
  · exact ⟨by dsimp only; omega, by dsimp only; omega⟩
  · exact ⟨by dsimp only; omega, by dsimp only; omega⟩
/-! ### defs that are called where no repr is under way -/
/-- the promise sp of the def at f, at level k, wherever no guard stands on the stack -/
structure FnG (P : Program) (w : World) (K : PySem.W.Frag) (mg : Str → Option Value) (base : Heap) (k : Nat) (f : Addr) (fd : FuncData) (ps : List Str) (sp : Sp) : Prop where
  len : ∀ vs H Q E, sp vs H Q E → vs.length = ps.length
  run : ∀ (A : Around) (outer : List Env) (s : Shared) (H : Hp) (args : Args) (us : List Value) (vs : List V) (Q : VK) (E : XK), A.guards = some [] → Room k A → Env0 P w K mg base A outer s H →
    BindsTo s fd args (ps.zip us) → Vals vs us → sp vs H Q E → codeAny (model P w) A (.call (.ref f) args) (CR CX0 outer P w H s Q E) s
theorem FnG.of {P : Program} {w : World} {K : PySem.W.Frag} {mg : Str → Option Value} {base : Heap} {k : Nat} {f : Addr} {fd : FuncData} {ps : List Str} {sp : Sp} (F : FnOk P w K mg base CX0 k f fd ps sp) : FnG P w K mg base k f fd ps sp :=
  ⟨F.len, fun A outer s H args us vs Q E _ hr => F.run A outer s H args us vs Q E hr⟩
section
variable {P : Program} {w : World} {K : PySem.W.Frag} {mg : Str → Option Value} {base : Heap}
theorem okG {x : Str} {st : Stmt} {f : Addr} {fd : FuncData} {N ps : List Str} {k : Nat} {sp : Sp} (F : FnP K x st f fd) (S : FnScope N ps (defScope st)) (len : ∀ vs H Q E, sp vs H Q E → vs.length = ps.length)
    (body : ∀ (cdv : Value) (A : Around) (outer : List Env) (s : Shared) (H : Hp) (vs : List V) (Q : VK) (E : XK), A.guards = some [] → Room k (A.deeper (envOfC x (defScope st) s.heap.objs.size f cdv)) → sp vs H Q E →
      ∃ t, PSs (cxOf CX0 P w K mg base N x (defScope st) f cdv A outer s H E) (defBody st) t ∧ t { nx := fun _ H' => Q .non H', rt := Q } (start N vs) H) :
    FnG P w K mg base (k + 1) f fd ps sp := by
  obtain ⟨oc, od, dV, kV, doc, pm, an, cdv, ct, osl, efd, look, hcd, _, _⟩ := F.ex
  subst efd
  refine ⟨len, ?_⟩
  intro A outer s H args us vs Q E hG room env binds rel want
  have hlen := len vs H Q E want
  have written : K.In s.heap := env.mod.kin.keeps (fun b o z => (env.bs b o z).1)
  have free : s.heap.NoLimit := env.mod.nolimit.keeps (fun b o z => (env.bs b o z).1)
  refine codeAny_call_function room.depth (written _ _ look) rfl S.co S.gen rfl (PySem.W.codeRec_of written hcd) (binds _ _ _ _ ?_)
  refine wpAny_newFunctionEnv_cells S.kind (fun y hy => ?_) (fun e1 h1 s1 inside => ?_)
  · obtain ⟨nm, val⟩ := y
    cases S.par nm (List.of_mem_zip hy).1 with
    | inl z => exact Or.inl z
    | inr z => exact Or.inr (And.intro z (PySem.W.cellsFrom_some _ _ _ (Or.inl z)))
  subst h1
  refine And.intro (free.keeps inside.toInCall.keep) (codeAny_func ?_)
  obtain ⟨t, rules, reading⟩ := body cdv A outer s H vs Q E hG (room.deeper _) want
  have inv : Inv (cxOf CX0 P w K mg base N x (defScope st) f cdv A outer s H E) [] (start N vs) H s1 := inv_start S room.hd env hlen rel inside
  refine wpAny_mono (rules.run [] s1 (start N vs) H _ inv reading) (fun flow s2 told => ?_) (fun e s2 z => z)
  cases flow with
  | ret u =>
    obtain ⟨v2, σ2, H2, J, rv, qq⟩ := told
    exact ⟨v2, H2, J.os, J.bare, J.base, J.hok, rv, qq⟩
  | next =>
    obtain ⟨σ2, H2, J, qq⟩ := told
    exact ⟨V.non, H2, J.os, J.bare, J.base, J.hok, rfl, qq⟩
  | brk => exact (told.choose_spec.choose_spec.2).elim
  | cont => exact (told.choose_spec.choose_spec.2).elim
end
/-- the module's name x is a def that keeps sp at level k, where no guard stands -/
structure ClG (P : Program) (w : World) (K : PySem.W.Frag) (mg : Str → Option Value) (base : Heap) (k : Nat) (x : Str) (ps : List Str) (sp : Sp) : Prop where
  ex : ∃ (f : Addr) (fd : FuncData), mg x = some (.ref f) ∧ PySem.W.keepIn K (.ref f) = true ∧ Binds K fd ps [] ∧ FnG P w K mg base k f fd ps sp
theorem pe_clG {X : Cx} {k : Nat} {x : Str} {ps : List Str} {sp : Sp} {e : Expr} {es : List Expr} {t : TA} {p pos : Pos} (c : ClG X.prog X.w X.K X.mg X.base k x ps sp) (hG : X.A.guards = some []) (hr : Room k X.A) (hg : Gl X x) (ha : PA X (e :: es) t)
    (hdb : (x == ("__debug__" : Str)) = false := by decide) (he : starEach (e :: es) X.env = (false, eval e X.env) :: starEach es X.env := by rfl) (hpl : (backTo pos (starEach es X.env)).any (·.1) = false := by rfl) :
    PE X (.Call (.Name x p) (e :: es) [] pos) (tCall sp [] E0 t) := by
  obtain ⟨f, fd, a, b, d, F⟩ := c.ex
  refine ⟨fun pins s σ H Q I h => wpAny_Call_Name_kw (ld_glob I hg a ?_ hdb)⟩
  refine PySem.W.callWith_K (h₀ := X.base) I.ok.mod.kin b (thn (ha.run pos pins s σ H _ I h) (fun us s1 got => ?_)) he hpl
  obtain ⟨vs, H1, I1, r, q⟩ := got
  refine And.intro I1.kIn ?_
  have q : sp vs H1 Q E0 := by
    have q2 : sp (vs ++ []) H1 Q E0 := q
    rw [List.append_nil] at q2
    exact q2
  have hl : us.length = ps.length := by rw [← r.length]; exact F.len _ _ _ _ q
  have bt : BindsTo s1 fd ⟨us, []⟩ (ps.zip us) := by
    have z := d s1 us I1.kIn (by rw [List.append_nil]; exact hl)
    rw [List.append_nil] at z
    exact z
  refine wpAny_call (codeAny_mono (F.run X.A X.stack s1 H1 ⟨us, []⟩ us vs Q E0 hG hr I1.env0 bt r q) (fun res s2 told => ?_))
  match res, told with
  | .error _, told => exact told.elim
  | .ok (.ret u), told => exact I1.after told
  | .ok .next, told => exact told.elim
  | .ok .brk, told => exact told.elim
  | .ok .cont, told => exact told.elim
theorem byC {v : V} {σ : L2.St} {H : Hp} {Q : VK} (h : Q v H) : tC v σ H Q := h
/-! ### repr of data -/
mutual
def toPy : D → PyData
  | .n => .none
  | .b x => .bool x
  | .i x => .int x
  | .s x => .str x
  | .t l => .tuple (toPyL l)
def toPyL : List D → List PyData
  | [] => []
  | d :: l => toPy d :: toPyL l
end
mutual
/-- small enough to be shown -/
def Sm : D → Prop
  | .i x => x.natAbs.log2 < 1920
  | .t l => SmL l
  | _ => True
def SmL : List D → Prop
  | [] => True
  | d :: l => Sm d ∧ SmL l
end
mutual
def wt : D → Nat
  | .n => 4
  | .b _ => 5
  | .i _ => 1925
  | .s x => (reprText x).length
  | .t l => wtL l + 3
def wtL : List D → Nat
  | [] => 0
  | d :: l => wt d + 2 + wtL l
end
mutual
theorem At.dp {K : PySem.W.Frag} {H : Hp} : ∀ (d : D) (v : V), At H d v → Dp K H v (toPy d)
  | .n, v, h => by unfold At at h; subst h; unfold toPy; exact .non
  | .b x, v, h => by unfold At at h; subst h; unfold toPy; exact .bl x
  | .i x, v, h => by unfold At at h; subst h; unfold toPy; exact .int x
  | .s x, v, h => by unfold At at h; subst h; unfold toPy; exact .str x
  | .t l, v, h => by
    obtain ⟨a, vs, rfl, ha, r⟩ := h.inv
    unfold toPy
    exact .tup (.inl (.inl ha)) (AtL.dp l vs r)
theorem AtL.dp {K : PySem.W.Frag} {H : Hp} : ∀ (l : List D) (vs : List V), AtL H l vs → DpAll K H vs (toPyL l)
  | [], vs, h => by unfold AtL at h; subst h; unfold toPyL; exact .nil
  | d :: l, vs, h => by
    unfold AtL at h
    obtain ⟨v, r, rfl, h1, h2⟩ := h
    unfold toPyL
    exact .cons (At.dp d v h1) (AtL.dp l r h2)
end
mutual
theorem sm_show : ∀ d : D, Sm d → (toPy d).showable = true
  | .n, _ => by unfold toPy; simp [PyData.showable]
  | .b x, _ => by unfold toPy; simp [PyData.showable]
  | .i x, h => by unfold Sm at h; unfold toPy; simp [PyData.showable, h]
  | .s x, _ => by unfold toPy; simp [PyData.showable]
  | .t l, h => by unfold Sm at h; unfold toPy; simp only [PyData.showable]; exact sm_showL l h
theorem sm_showL : ∀ l : List D, SmL l → PyData.showableAll (toPyL l) = true
  | [], _ => by unfold toPyL; simp [PyData.showableAll]
  | d :: l, h => by unfold SmL at h; unfold toPyL; simp only [PyData.showableAll, sm_show d h.1, sm_showL l h.2, Bool.and_self]
end
mutual
theorem no_dict : ∀ d : D, (toPy d).hasDict = false
  | .n => by unfold toPy; simp [PyData.hasDict]
  | .b x => by unfold toPy; simp [PyData.hasDict]
  | .i x => by unfold toPy; simp [PyData.hasDict]
  | .s x => by unfold toPy; simp [PyData.hasDict]
  | .t l => by unfold toPy; simp only [PyData.hasDict]; exact no_dictL l
theorem no_dictL : ∀ l : List D, PyData.hasDictAll (toPyL l) = false
  | [] => by unfold toPyL; simp [PyData.hasDictAll]
  | d :: l => by unfold toPyL; simp only [PyData.hasDictAll, no_dict d, no_dictL l, Bool.or_self]
end
theorem tupleText_le (ts : List Str) : (tupleText ts).length ≤ piled ts + 3 := by
  cases ts with
  | nil => decide
  | cons t r =>
    have h := join_length_add (t :: r) (List.cons_ne_nil t r)
    unfold tupleText
    rw [strLen_append, strLen_append]
    have h1 : ("(" : Str).length = 1 := by decide
    have h2 : ((if (t :: r).length == 1 then ",)" else ")" : String) : Str).length ≤ 2 := by
      split <;> decide
    omega
mutual
theorem shown_le : ∀ d : D, Sm d → (toPy d).shown.length ≤ wt d
  | .n, _ => by unfold toPy wt; simp only [PyData.shown]; decide
  | .b x, _ => by unfold toPy wt; simp only [PyData.shown]; cases x <;> decide
  | .i x, h => by
    unfold Sm at h
    unfold toPy wt
    simp only [PyData.shown]
    have e := int_text_length_le (k := 1920) (by decide) h
    show (Str.ofString (toString x)).length ≤ 1925
    rw [PySem.ofString_length]
    omega
  | .s x, _ => by unfold toPy wt; simp only [PyData.shown]; exact Nat.le_refl _
  | .t l, h => by
    unfold Sm at h
    unfold toPy wt
    simp only [PyData.shown]
    have h1 := tupleText_le (PyData.shownAll (toPyL l))
    have h2 := shown_leL l h
    omega
theorem shown_leL : ∀ l : List D, SmL l → piled (PyData.shownAll (toPyL l)) ≤ wtL l
  | [], _ => by unfold toPyL wtL; simp only [PyData.shownAll, piled_nil]; exact Nat.le_refl _
  | d :: l, h => by
    unfold SmL at h
    unfold toPyL wtL
    simp only [PyData.shownAll, piled_cons]
    have h1 := shown_le d h.1
    have h2 := shown_leL l h.2
    omega
end
theorem dep_depth : ∀ (k : Nat) (d : D), Dep k d → (toPy d).depth ≤ k
  | _, .n, _ => by unfold toPy; simp [PyData.depth]
  | _, .b x, _ => by unfold toPy; simp [PyData.depth]
  | _, .i x, _ => by unfold toPy; simp [PyData.depth]
  | _, .s x, _ => by unfold toPy; simp [PyData.depth]
  | 0, .t l, h => h.elim
  | k + 1, .t l, h => by
    unfold toPy
    simp only [PyData.depth]
    have go : ∀ l : List D, (∀ d ∈ l, Dep k d) → PyData.depthAll (toPyL l) ≤ k := by
      intro l
      induction l with
      | nil => intro _; unfold toPyL; simp [PyData.depthAll]
      | cons d l ih =>
        intro hl
        unfold toPyL
        simp only [PyData.depthAll]
        have h1 := dep_depth k d (hl d (List.mem_cons_self ..))
        have h2 := ih fun x hx => hl x (List.mem_cons_of_mem _ hx)
        omega
    have := go l h.2
    omega
def rRepr : List V → Hp → VK → Prop := fun xs H Q => ∃ (v : V) (d : D), xs = [v] ∧ At H d v ∧ Dep 40 d ∧ Sm d ∧ wt d ≤ sizeLine ∧ Q (.str (toPy d).shown) H
theorem call_reprG {X : Cx} (hG : X.A.guards = some []) (hu : X.A.units + 64 < cLine) : CallR X (.builtin "repr") rRepr := by
  intro pins s σ H xs us Q I r h
  obtain ⟨v, d, rfl, hv, hd, hs, hw, q⟩ := h
  obtain ⟨u, rfl, rv⟩ := vals1 r
  obtain ⟨as, rd⟩ := Dp.reads I (toPy d) v u (At.dp d v hv) rv
  have hl := Nat.le_trans (shown_le d hs) hw
  have hdep := dep_depth 40 d hd
  cases d with
  | t l =>
    obtain ⟨a, vs, rfl, _⟩ := hv.inv
    obtain rfl : u = Value.ref a := rv
    exact PySem.repr_of_reads' rd (sm_show _ hs) (PyData.noDict_hsm (no_dict _)) hG (by omega) (fun _ _ e => e) (fun h' u tk hk => ⟨.str _, H, I.kept (t' := tk) hk, ⟨_, rfl⟩, q⟩) hl
  | n =>
    unfold At at hv
    subst hv
    obtain rfl : u = Value.none := rv
    refine PySem.P.repr_of_none ⟨.str _, H, I.tok _, ⟨_, rfl⟩, ?_⟩
    unfold toPy at q
    simp only [PyData.shown] at q
    exact q
  | b x =>
    unfold At at hv
    subst hv
    obtain rfl : u = Value.bool x := rv
    refine PySem.P.repr_of_bool ⟨.str _, H, I.tok _, ⟨_, rfl⟩, ?_⟩
    unfold toPy at q
    simp only [PyData.shown] at q
    exact q
  | i x =>
    unfold At at hv
    subst hv
    obtain ⟨t, rfl⟩ := rv
    unfold Sm at hs
    refine PySem.P.repr_of_int hs ⟨.str _, H, I.tok _, ⟨_, rfl⟩, ?_⟩
    unfold toPy at q
    simp only [PyData.shown] at q
    exact q
  | s x =>
    unfold At at hv
    subst hv
    obtain ⟨t, rfl⟩ := rv
    unfold toPy at q hl
    simp only [PyData.shown] at q hl
    exact PySem.P.repr_of_str (hsz := hl) ⟨.str _, H, I.tok _, ⟨_, rfl⟩, q⟩
/-! ### the law's entry -/
/-- a law's def that keeps its promise where no guard stands -/
theorem callG {P : Program} {w : World} {K : PySem.W.Frag} {mg mb : Str → Option Value} {k : Nat} {fa a : Addr} {fd : FuncData} {x : Str} {sp : Sp} {s₁ : Shared} {vs : List Value} {ns : List Int}
    (kin : K.In s₁.heap) (glob : s₁.heap.Ns mainGlobals mg) (blt : s₁.heap.Ns builtinsNs mb) (same : ∀ x : Str, x ≠ "__name__" → mb x = bootBuiltins x) (lim : s₁.heap.NoLimit) (gens : s₁.gens = #[])
    (script : s₁.heap.get? a = some { cls := .type "list", data := .seq vs.toArray }) (nums : IntsAre vs ns) (short : ns.length ≤ sizeLine) (room : Room k callerA)
    (F : ∀ base : Heap, K.In base → base.Ns mainGlobals mg → FnG P w K mg base k fa fd [x] sp) (binds : ∀ (s : Shared) (u : Value), BindsTo s fd ⟨[u], []⟩ [(x, u)])
    (want : ∀ H : Hp, Only H → SqL K H a (ns.map V.int) → sp [.ref a] H (fun v _ => v = .bl true) fun _ _ _ => False) :
    codeAny (model P w) callerA (.call (.ref fa) ⟨[.ref a], []⟩) (fun r s' => r = .ok (.ret (.bool true)) ∧ OldK s₁.heap s'.heap ∧ s'.os = s₁.os ∧ AllBare s'.gens) s₁ := by
  -- from any abstract heap that tracks the script alone, or nothing
  have go : ∀ H : Hp, Only H → SqL K H a (ns.map V.int) → HOk P w H s₁.heap → (∀ b, H b ≠ none → b = a ∧ K.lookup a = none) →
      codeAny (model P w) callerA (.call (.ref fa) ⟨[.ref a], []⟩) (fun r s' => r = .ok (.ret (.bool true)) ∧ OldK s₁.heap s'.heap ∧ s'.os = s₁.os ∧ AllBare s'.gens) s₁ := by
    intro H only sq ok at_a
    have untracked : ∀ {b : Addr}, (H b ≠ none → False) → H b = none := fun {b} h => by
      rcases hb : H b with _ | u
      · rfl
      · exact (h (by rw [hb]; simp)).elim
    have dicts : ∀ {b : Addr} {o : Obj} {es : Array DictEntry} {ep : Nat}, s₁.heap.get? b = some o → o.data = .dict es ep → H b = none := fun {b o es ep} e1 e2 => untracked fun hb => by
      have eb := (at_a b hb).1
      rw [eb, script] at e1
      cases e1
      have e3 : Data.seq vs.toArray _ = Data.dict es ep := e2
      cases e3
    have spaces : ∀ {b : Addr} {m : Str → Option Value}, s₁.heap.Ns b m → (hidT s₁.heap H).Ns b m := fun {b m} z => by
      obtain ⟨o, es, ep, z1, z2, z3⟩ := z
      exact ⟨o, es, ep, hidT_get z1 (dicts z1 z2), z2, z3⟩
    have written : K.In (hidT s₁.heap H) := fun b o e1 => hidT_get (kin b o e1) (untracked fun hb => by
      have e2 := at_a b hb
      rw [e2.1, e2.2] at e1
      cases e1)
    have modl : Mod K mg (hidT s₁.heap H) := by
      obtain ⟨mc, l1, l2⟩ := lim
      exact ⟨written, spaces glob, ⟨mb, spaces blt, same⟩, ⟨mc, spaces l1, l2⟩⟩
    have env : Env0 P w K mg (hidT s₁.heap H) callerA [] s₁ H :=
      ⟨rfl, modl, fun b o e1 => of_hidT e1, Nat.le_of_eq (hidT_size _ _), trivial, (fun b hb => nomatch (show b ∈ ([] : List Addr) from hb)), ok, .of_eq gens⟩
    have run := (F _ written (spaces glob)).run callerA [] s₁ H ⟨[.ref a], []⟩ [.ref a] [.ref a] (fun v _ => v = .bl true) (fun _ _ _ => False) rfl room env (binds s₁ (.ref a)) (.cons rfl .nil) (want H only sq)
    refine codeAny_mono run (fun res s2 told => ?_)
    match res, told with
    | .error _, told => exact told.elim
    | .ok .next, told => exact told.elim
    | .ok .brk, told => exact told.elim
    | .ok .cont, told => exact told.elim
    | .ok (.ret u), told =>
      obtain ⟨v2, H2, t1, t2, t3, t4, t5, t6⟩ := told
      have e6 : v2 = .bl true := t6
      subst e6
      obtain rfl : u = Value.bool true := t5
      refine ⟨rfl, OldK.of_keep (fun b o e1 => ?_), t1, t2⟩
      rcases hb : H b with _ | u
      · exact t3.keep b o e1 hb (fun z => nomatch (show b ∈ ([] : List Addr) from z)) (by simp)
      · rcases only b with z | ⟨ob, xs, z⟩
        · rw [hb] at z
          cases z
        · have e2 := (ok b _ z).1
          have e3 := (t4 b _ (t3.frzs b ob _ z)).1
          rw [e1] at e2
          cases e2
          exact e3
  have rel := vals_ints nums
  rcases own : K.lookup a with _ | o
  · refine go (fun b => if b = a then some (.frz { cls := .type "list", data := .seq vs.toArray } (.lst (ns.map V.int))) else none) (fun b => ?_) (.inl (.inr ⟨_, if_pos rfl⟩)) (fun b u z => ?_) (fun b z => ?_)
    · by_cases hb : b = a
      · exact Or.inr ⟨_, _, if_pos hb⟩
      · exact Or.inl (if_neg hb)
    · by_cases hb : b = a
      · have z2 := Eq.trans (if_pos hb).symm z
        cases z2
        rw [hb]
        exact ⟨script, by rw [List.length_map]; exact short, vs, _, rel, script⟩
      · have z2 := Eq.trans (if_neg hb).symm z
        cases z2
    · by_cases hb : b = a
      · exact ⟨hb, own⟩
      · exact (z (if_neg hb)).elim
  · have e := kin a o own
    rw [script] at e
    cases e
    refine go (fun _ => none) (fun _ => Or.inl rfl) (.inr ⟨_, vs.toArray, _, own, rfl, rfl, rfl, by rw [List.size_toArray, nums.length]; exact short, by simpa using rel⟩) (fun b u z => ?_) (fun b z => absurd rfl z)
    have z2 : (none : Option HO) = some u := z
    cases z2
theorem walkG {l : PySem.W.OpenLaw} {n k : Nat} {q : Program} {loose : List Str} {XP : (Str → Option Value) → Heap → Prop} {YP : World → Heap → Prop} {d : DefRec} {x : Str}
    (m63 : l.most = some n) (fits : n ≤ sizeLine) (plain : d.params.defaults = []) (room : Room k callerA)
    (told : ∀ (w : World) (mg : Str → Option Value) (fa : Addr) (h : Heap), YP w h → h.Ns mainGlobals mg → mg d.name = some (.ref fa) →
      ∃ (K : PySem.W.Frag) (fd : FuncData) (sp : Sp), K.In h ∧ (∀ (s : Shared) (v : Value), BindsTo s fd ⟨[v], []⟩ [(x, v)]) ∧
        (∀ (H : Hp) (a : Addr) (ns : List Int), ns.length ≤ n → SqL K H a (ns.map V.int) → sp [.ref a] H (fun v _ => v = .bl true) fun _ _ _ => False) ∧ (∀ base : Heap, K.In base → base.Ns mainGlobals mg → FnG l.prog w K mg base k fa fd [x] sp)) :
    PySem.W.WalkO q loose XP YP l.row.toRowW d [] (fun g us => PySem.call g us) := by
  refine Att.attach_call m63 plain ?_
  intro w s0 s1 mg mb fa o pm cd doc a vs ns G Y h1 h2 h3 named obj nums len gens
  obtain ⟨K, fd, sp, kin, bind, want, F⟩ := told w mg fa _ Y G.T.g named
  exact callG kin G.T.g G.T.b G.T.builtins G.T.nolimit gens obj nums (Nat.le_trans len fits) room F bind (fun H _ sq => want H a ns len sq)
/-! ### rows: bounds, walking -/
def Bd (x : Int × Int) : Prop := 0 ≤ x.1 ∧ x.1 < 10000000000000000000000000000000000000000 ∧ 0 ≤ x.2 ∧ x.2 < 10000000000000000000000000000000000000000
theorem Bd.nn {x : Int × Int} (h : Bd x) : Nn x := ⟨h.1, h.2.2.1⟩
theorem sm_int {x : Int} (h : x.natAbs < 2 ^ 1900) : Sm (.i x) := by
  unfold Sm
  exact Nat.lt_of_lt_of_le (PySem.Flt.log2_lt_of (by decide) h) (by decide)
theorem sm_pair {x : Int × Int} (h1 : x.1.natAbs < 2 ^ 1900) (h2 : x.2.natAbs < 2 ^ 1900) : Sm (dP x) := by
  unfold Sm SmL SmL SmL
  exact ⟨sm_int h1, sm_int h2, trivial⟩
theorem Bd.sz1 {x : Int × Int} (h : Bd x) : x.1.natAbs < 2 ^ 140 := Nat.lt_trans (show x.1.natAbs < 10000000000000000000000000000000000000000 by have := h.1; have := h.2.1; omega) (by decide)
theorem Bd.sz2 {x : Int × Int} (h : Bd x) : x.2.natAbs < 2 ^ 140 := Nat.lt_trans (show x.2.natAbs < 10000000000000000000000000000000000000000 by have := h.2.2.1; have := h.2.2.2; omega) (by decide)
theorem Bd.sm {x : Int × Int} (h : Bd x) : Sm (dP x) := sm_pair (lt_pow h.sz1 (by decide)) (lt_pow h.sz2 (by decide))
theorem sm_rowL : ∀ {ps : List (Int × Int)}, (∀ x ∈ ps, Sm (dP x)) → SmL (ps.map dP)
  | [], _ => by unfold List.map SmL; trivial
  | x :: r, h => by
    rw [List.map_cons]
    unfold SmL
    exact ⟨h x (List.mem_cons_self ..), sm_rowL fun y hy => h y (List.mem_cons_of_mem _ hy)⟩
theorem sm_row {ps : List (Int × Int)} (h : ∀ x ∈ ps, Sm (dP x)) : Sm (dR ps) := by
  unfold Sm
  exact sm_rowL h
theorem wt_pair (x : Int × Int) : wt (dP x) = 3857 := by
  unfold wt wtL wtL wtL wt
  rfl
theorem wt_rowL : ∀ ps : List (Int × Int), wtL (ps.map dP) = 3859 * ps.length
  | [] => by unfold List.map wtL; rfl
  | x :: r => by
    rw [List.map_cons]
    unfold wtL
    rw [wt_rowL r, wt_pair, List.length_cons]
    omega
theorem wt_row {ps : List (Int × Int)} (h : ps.length ≤ 4000) : wt (dR ps) ≤ sizeLine := by
  unfold wt
  rw [wt_rowL, sizeLine_eq]
  omega
theorem Dep.le {j k : Nat} {d : D} (h : j ≤ k) (a : Dep j d) : Dep k d := by
  induction h with
  | refl => exact a
  | step _ ih => exact ih.mono
theorem rep_map (k : Nat) (ps : List (Int × Int)) : (List.replicate k (ps.map dP)).flatten = (List.replicate k ps).flatten.map dP := by
  rw [List.map_flatten, List.map_replicate]
theorem rep_mem {α : Type} {k : Nat} {ps : List α} {x : α} (h : x ∈ (List.replicate k ps).flatten) : x ∈ ps := by
  obtain ⟨l, hl, hx⟩ := List.mem_flatten.mp h
  rw [(List.mem_replicate.mp hl).2] at hx
  exact hx
/-- what a purse holds behind a row, none where it is not borne -/
def wk : List (Int × Int) → Int → Option Int
  | [], k => some k
  | x :: r, k => if k < x.1 then none else wk r (k - x.1 + x.2)
def vO : Option Int → V
  | none => .non
  | some x => .int x
def dO : Option Int → D
  | none => .n
  | some x => .i x
theorem at_dO {H : Hp} (o : Option Int) : At H (dO o) (vO o) := by
  cases o with
  | none => unfold dO vO At; rfl
  | some x => unfold dO vO At; rfl
theorem wk_wl : ∀ {ps : List (Int × Int)} {k : Int}, (∀ x ∈ ps, Nn x) → 0 ≤ k → wk ps k = if k < (wl ps).1 then none else some (k - (wl ps).1 + (wl ps).2)
  | [], k, _, hk => by
    unfold wk wl
    rw [if_neg (by dsimp only; omega)]
    dsimp only
    congr 1
    omega
  | x :: r, k, h, hk => by
    have hx := h x (List.mem_cons_self ..)
    have hr := wl_nn (ps := r) fun y hy => h y (List.mem_cons_of_mem _ hy)
    unfold wk
    rw [show wl (x :: r) = jn x (wl r) from rfl]
    obtain ⟨h1, h2⟩ := hx
    obtain ⟨h3, h4⟩ := hr
    by_cases e : k < x.1
    · rw [if_pos e, if_pos (by unfold jn; dsimp only; split <;> omega)]
    · rw [if_neg e, wk_wl (ps := r) (fun y hy => h y (List.mem_cons_of_mem _ hy)) (by omega)]
      generalize wl r = m at *
      unfold jn
      dsimp only
      by_cases e2 : k - x.1 + x.2 < m.1
      · rw [if_pos e2, if_pos (by split <;> omega)]
      · rw [if_neg e2, if_neg (by split <;> omega)]
        congr 1
        repeat' split
        all_goals omega
theorem wk_need {ps : List (Int × Int)} (h : ∀ x ∈ ps, Nn x) : wk ps (wl ps).1 = some (wl ps).2 := by
  rw [wk_wl h (wl_nn h).1, if_neg (by omega)]
  congr 1
  omega
theorem wk_less {ps : List (Int × Int)} {k : Int} (h : ∀ x ∈ ps, Nn x) (h0 : 0 ≤ k) (h1 : k < (wl ps).1) : wk ps k = none := by
  rw [wk_wl h h0, if_pos h1]
theorem wk_more {ps : List (Int × Int)} {m : Int} (h : ∀ x ∈ ps, Nn x) (h0 : 0 ≤ m) : wk ps ((wl ps).1 + m) = some ((wl ps).2 + m) := by
  have := (wl_nn h).1
  rw [wk_wl h (by omega), if_neg (by omega)]
  congr 1
  omega
/-! ### t[::-1] of a tuple -/
theorem pick_back (xs : Array Value) : ((List.range xs.size).filterMap fun (k : Nat) => xs[(((xs.size : Int) - 1) + (k : Int) * (-1)).toNat]?) = xs.toList.reverse := by
  have e : ∀ k ∈ List.range xs.size, xs[(((xs.size : Int) - 1) + (k : Int) * (-1)).toNat]? = xs.toList.reverse[k]? := by
    intro k hk
    have h1 := List.mem_range.mp hk
    rw [List.getElem?_reverse (by rw [Array.length_toList]; exact h1), Array.length_toList, Array.getElem?_toList]
    congr 1
    omega
  have fm : ∀ (l : List Nat) (f g : Nat → Option Value), (∀ k ∈ l, f k = g k) → l.filterMap f = l.filterMap g := by
    intro l f g
    induction l with
    | nil => intro _; rfl
    | cons a l ih =>
      intro h
      rw [List.filterMap_cons, List.filterMap_cons, h a (List.mem_cons_self ..), ih fun k hk => h k (List.mem_cons_of_mem _ hk)]
  rw [fm _ _ _ e]
  have h2 : xs.toList.reverse.length = xs.size := by rw [List.length_reverse, Array.length_toList]
  rw [← h2]
  generalize xs.toList.reverse = l
  induction l with
  | nil => rfl
  | cons a l ih =>
    rw [List.length_cons, List.range_succ_eq_map, List.filterMap_cons]
    show a :: _ = _
    rw [List.filterMap_map]
    exact congrArg (a :: ·) ih
section
variable {prog : Program} {w : World} {A : Around} {E : Value → Shared → Prop} {s : Shared}
theorem applied_back {sl : Addr} {t : Tok} {n : Nat} {Q : Int × Int × Nat → Shared → Prop} (hs : s.heap.IsSliceOf sl .none .none (.int (-1) t)) (h : Q ((n : Int) - 1, -1, n) s) :
    wpAny (model prog w) A (Builtin.Slice.sliceApplied (.ref sl) (pure (n : Int))) Q E s := by
  obtain ⟨os, o1, o2, o3⟩ := id hs
  unfold Builtin.Slice.sliceApplied Builtin.Slice.sliceFields
  refine wpAny_bind (wpAny_bind (wpAny_field o1 o3 (x := .none) rfl (wpAny_bind (wpAny_field o1 o3 (x := .none) rfl (wpAny_bind (wpAny_field o1 o3 (x := .int (-1) t) rfl (wpAny_pure ?_)))))))
  refine wpAny_bind (HT.slicePart_ (IsPart.int (-1) t) ?_)
  show wpAny _ _ (if ((-1 : Int) == 0) = true then _ else _) _ _ s
  rw [if_neg (by decide)]
  refine wpAny_bind (HT.slicePart_ IsPart.none (wpAny_bind (HT.slicePart_ IsPart.none (wpAny_bind (wpAny_pure ?_)))))
  have e : Builtin.Slice.slicePlaces ((n : Int) - 1) (-1) (-1) = n := by
    unfold Builtin.Slice.slicePlaces
    rw [if_neg (by decide), show (-(-1 : Int)) = 1 from rfl, Int.ediv_one]
    split <;> omega
  show wpAny _ _ (pure ((n : Int) - 1, (-1 : Int), Builtin.Slice.slicePlaces ((n : Int) - 1) (-1) (-1))) _ _ s
  rw [e]
  exact wpAny_pure h
theorem item_back {t sl : Addr} {its : Array Value} {k : Tok} {Q : Value → Shared → Prop} (ht : IsTup s.heap t its) (hs : s.heap.IsSliceOf sl .none .none (.int (-1) k))
    (h : Q (.ref s.heap.objs.size) { s with heap := s.heap.push { cls := .type "tuple", data := .seq its.toList.reverse.toArray } }) (hsz : its.size ≤ sizeLine) :
    wpAny (model prog w) A (getItem (.ref t) (.ref sl)) Q E s := by
  have fits : sizeOk (.seq its.toList.reverse.toArray) := by
    show its.toList.reverse.toArray.size ≤ sizeLine
    rw [List.size_toArray, List.length_reverse, Array.length_toList]
    exact hsz
  obtain ⟨os, o1, o2, o3⟩ := id hs
  have isS : s.TypeIs (.ref sl) "slice" := ⟨os, o1, o2⟩
  unfold getItem
  try with_reducible refine wpAny_holding ?_
  first | refine wpAny_bind (wpAny_pure ?_) | skip
  refine wpAny_bind (wpAny_sequenceKey ht.typeIs (by decide) ?_)
  refine wpAny_bind (wpAny_callSpecial?_slot (name := Str.ofString "__getitem__") ht.typeIs PyProof.Rows.slot_tuple_getitem ?_)
  refine wpAny_call_entry PyProof.Rows.slot_tuple_getitem ht.typeIs entry_tuple_getitem ?_ (args_tuple_getitem _ _)
  show wpAny _ _ (Builtin.Tuple.tupleItemsOf (.ref t) >>= _) _ _ s
  refine wpAny_bind (tupleItemsOf_ ht (wpAny_bind (wpAny_typeOf isS ?_)))
  rw [if_pos (by decide)]
  refine wpAny_bind (applied_back hs ?_)
  have no : ¬ ((((its.size : Int) - 1) == 0 && (-1 : Int) == 1 && its.size == its.size) = true) := by
    intro z
    rw [Bool.and_eq_true, Bool.and_eq_true] at z
    exact absurd (eq_of_beq z.1.2) (by decide)
  show wpAny _ _ (if (((its.size : Int) - 1) == 0 && (-1 : Int) == 1 && its.size == its.size) = true then _ else _) _ _ s
  rw [if_neg no, pick_back]
  first
    | exact wpAny_bind (m := Builtin.Tuple.tupleExact _) (wpAny_newObj_type (wpAny_pure ⟨_, rfl, wpAny_pure h⟩) fits)
    | exact wpAny_bind (m := Builtin.Tuple.tupleExact _) (wpAny_newObj_type (wpAny_bind (wpAny_pure (wpAny_pure ⟨_, rfl, wpAny_pure h⟩))) fits)
    | exact wpAny_bind (wpAny_bind (m := Builtin.Tuple.tupleExact _) (wpAny_newObj_type (wpAny_pure (wpAny_pure ⟨_, rfl, wpAny_pure h⟩)) fits))
    | exact wpAny_bind (wpAny_bind (m := Builtin.Tuple.tupleExact _) (wpAny_newObj_type (wpAny_pure ⟨_, rfl, wpAny_pure h⟩) fits))
end
def tRevT (K : PySem.W.Frag) (te : TE) : TE := fun σ H Q => te σ H fun x H1 => ∃ a xs, x = .ref a ∧ SqT K H1 a xs ∧ ∀ p, H1 p = none → Q (.ref p) (upd H1 p (.tup xs.reverse))
theorem pe_revT_ {X : Cx} {K : PySem.W.Frag} {e : Expr} {te : TE} {k : Nat} {p1 p2 p3 pos : Pos} (hK : X.K = K) (he : PE X e te) : PE X (.Subscript e (.Slice none none (some (.UnaryOp .USub (.Constant (.int 1) k p1) p2)) p3) pos) (tRevT K te) := by
  subst hK
  refine ⟨fun pins s σ H Q I h => Subscript_ (thn (he.run pins s σ H _ I h) (fun v s1 got => ?_))⟩
  obtain ⟨x, H1, I1, r1, a, xs, ex, hx, q⟩ := got
  subst ex
  cases r1
  have step : PO X (some (.UnaryOp .USub (.Constant (.int 1) k p1) p2)) (tPart (tUn (rU fun i => .int (-i)) (tC (.int 1)))) := po_some (pe_un un_neg pe_int)
  refine wpAny_Slice (thn (po_none.run pins s1 σ H1 (fun o H2 => o = none ∧ H2 = H1) I1 ⟨rfl, rfl⟩) (fun vl s2 got => ?_))
  obtain ⟨l, H2, I2, pl, el, e2⟩ := got
  subst el e2
  refine thn (po_none.run pins s2 σ H2 (fun o H3 => o = none ∧ H3 = H2) I2 ⟨rfl, rfl⟩) (fun vu s3 got => ?_)
  obtain ⟨u, H3, I3, pu, eu, e3⟩ := got
  subst eu e3
  refine thn (step.run pins s3 σ H3 (fun o H4 => o = some (-1) ∧ H4 = H3) I3 ⟨1, rfl, -1, rfl, rfl, rfl⟩) (fun vs s4 got => ?_)
  obtain ⟨o, H4, I4, ps, eo, e4⟩ := got
  subst eo e4
  cases pl
  cases pu
  cases ps with
  | int i t =>
  have I5 : Inv X pins σ H4 { s4 with heap := s4.heap.push { cls := .type "slice", data := .fields #[.none, .none, .int (-1) t] } } := I4.kept (t' := s4.toks) (fun b ob z => Heap.get?_push_of_some _ z)
  obtain ⟨its, r, ht, hz⟩ := I5.tuple hx
  have hlen : its.toArray.size = xs.length := by rw [List.size_toArray]; exact r.length.symm
  show wpAny (model X.prog X.w) X.A (subscriptTail e (.Slice none none (some (.UnaryOp .USub (.Constant (.int 1) k p1) p2)) p3) (.ref a) (.ref s4.heap.objs.size)) (EP X pins σ Q) X.xe { s4 with heap := s4.heap.push { cls := .type "slice", data := .fields #[.none, .none, .int (-1) t] } }
  refine tail_any (ops := [.ref a, .ref s4.heap.objs.size]) ht.typeIs PyProof.Rows.slot_tuple_getitem.lookup ?_ (by with_unfolding_all rfl)
  refine item_back ht (Heap.IsSliceOf.new _ _ _ _) ?_ (by rw [hlen]; exact hz)
  refine ⟨.ref _, _, I5.laid (t' := s4.toks) (o := .tup xs.reverse) (fun b ob z => Heap.get?_push_of_some _ z) (Nat.le_refl _) ?_, rfl, q _ (I5.hok.fresh (Nat.le_refl _))⟩
  exact ⟨by rw [List.length_reverse]; exact hz, _, r.reverse, IsTup.new _ _⟩
/-! ### more rules by the written part's own name -/
theorem pgT_ {X : Cx} {K : PySem.W.Frag} {es : List Expr} {k : Nat} {t : TGs} {n : Nat} {pos : Pos} (hK : X.K = K) (hc : X.calm = true) (h : PGs X es t)
    (hn : (assignEach es X.env).length = n := by rfl) (hst : (assignEach es X.env).findIdx? (·.1) = none := by rfl) : PG X (.Tuple es k pos) (gTup K n t) := by
  subst hK
  exact pg_tup hc h hn hst
theorem piT_ {X : Cx} {K : PySem.W.Frag} {tg l : Expr} {tl : TE} (hK : X.K = K) (h : PE X l tl) : PI X tg l (iTup K tl) := by
  subst hK
  exact pi_tup h
theorem piL_ {X : Cx} {K : PySem.W.Frag} {tg l : Expr} {tl : TE} (hK : X.K = K) (h : PE X l tl) : PI X tg l (iList K tl) := by
  subst hK
  exact pi_list h
theorem pe_revL_ {X : Cx} {K : PySem.W.Frag} {e : Expr} {te : TE} {k : Nat} {p1 p2 p3 pos : Pos} (hK : X.K = K) (he : PE X e te) : PE X (.Subscript e (.Slice none none (some (.UnaryOp .USub (.Constant (.int 1) k p1) p2)) p3) pos) (tRevL K te) := by
  subst hK
  exact pe_revL he
theorem catA_ {X : Cx} {K : PySem.W.Frag} (hK : X.K = K) : OpR X (binaryOp .Add) (rCatA K) := by
  subst hK
  exact op_catA
/-- zip of two tuples -/
theorem walk_zipT {K : PySem.W.Frag} {a b : Addr} {xs ys : List V} {n : Nat} (hn : n = min xs.length ys.length) : Walk (RZ.ItzT K a b) n (fun H => SqT K H a xs ∧ SqT K H b ys) (YPair (fun i => xs[i]?) (fun i => ys[i]?)) := by
  subst hn
  refine ⟨fun i _ hi q => ?_, fun _ q => ⟨xs, ys, q.1, q.2, by omega⟩, fun i H v H' _ q y => ?_⟩
  · have l1 : i < xs.length := by omega
    have l2 : i < ys.length := by omega
    exact ⟨xs, ys, xs[i], ys[i], q.1, q.2, List.getElem?_eq_getElem l1, List.getElem?_eq_getElem l2⟩
  · obtain ⟨T, x, z, y1, y2, y3, y4, y5⟩ := y
    exact ⟨T, x, z, y1, y2, y3, y4 xs q.1, y5 ys q.2⟩
theorem Dep.ints {ns : List Int} (h : ns.length ≤ 1000000) : Dep 1 (.t (ns.map D.i)) := by
  refine ⟨by rw [List.length_map]; exact h, fun d hd => ?_⟩
  obtain ⟨x, _, rfl⟩ := List.mem_map.mp hd
  trivial
theorem at_ints {H : Hp} : ∀ ns : List Int, AtL H (ns.map D.i) (ns.map V.int)
  | [] => AtL.nil
  | n :: ns => AtL.cons (At.int n) (at_ints ns)
theorem upd_lst_tups {H : Hp} {o : Addr} {xs : List V} {x : HO} (h : H o = some (.lst xs)) : Tups H (upd H o x) := fun b ys e => by
  rw [upd_ne (ne_of e h (by intro z; cases z))]
  exact e
/-! ### heights and dips -/
def gn (ps : List (Int × Int)) : Int := (ps.map fun x => x.2 - x.1).sum
def hts (ps : List (Int × Int)) : List Int := (List.range (ps.length + 1)).map fun k => gn (ps.take k)
def dpA (ps : List (Int × Int)) (k : Nat) : Int := gn (ps.take k) - (ps.getD k (0, 0)).1
def dps (ps : List (Int × Int)) : List Int := (List.range ps.length).map (dpA ps)
def swp (x : Int × Int) : Int × Int := (x.2, x.1)
def trn (ps : List (Int × Int)) : List (Int × Int) := ps.reverse.map swp
theorem gn_nil : gn [] = 0 := rfl
theorem gn_cons (x : Int × Int) (r : List (Int × Int)) : gn (x :: r) = x.2 - x.1 + gn r := by
  unfold gn
  rw [List.map_cons, List.sum_cons]
theorem gn_append (a b : List (Int × Int)) : gn (a ++ b) = gn a + gn b := by
  unfold gn
  rw [List.map_append, List.sum_append]
theorem gn_take {ps : List (Int × Int)} {i : Nat} {r : Int × Int} (h : ps[i]? = some r) : gn (ps.take (i + 1)) = gn (ps.take i) + (r.2 - r.1) := by
  rw [List.take_add_one, h, gn_append]
  show gn (ps.take i) + gn [r] = _
  rw [gn_cons, gn_nil]
  omega
theorem hts_len (ps : List (Int × Int)) : (hts ps).length = ps.length + 1 := by
  unfold hts
  rw [List.length_map, List.length_range]
theorem dps_len (ps : List (Int × Int)) : (dps ps).length = ps.length := by
  unfold dps
  rw [List.length_map, List.length_range]
theorem hts_get {ps : List (Int × Int)} {k : Nat} (h : k ≤ ps.length) : (hts ps)[k]? = some (gn (ps.take k)) := by
  unfold hts
  rw [List.getElem?_map, List.getElem?_range (by omega)]
  rfl
theorem dps_get {ps : List (Int × Int)} {k : Nat} (h : k < ps.length) : (dps ps)[k]? = some (dpA ps k) := by
  unfold dps
  rw [List.getElem?_map, List.getElem?_range h]
  rfl
theorem map_range_succ {α : Type} (f : Nat → α) (i : Nat) : (List.range (i + 1)).map f = (List.range i).map f ++ [f i] := by
  rw [List.range_succ, List.map_append]
  rfl
theorem gn_trn : ∀ ps : List (Int × Int), gn (trn ps) = - gn ps
  | [] => rfl
  | x :: r => by
    have ih := gn_trn r
    unfold trn at *
    rw [List.reverse_cons, List.map_append, gn_append, ih, gn_cons]
    show - gn r + gn [swp x] = _
    rw [gn_cons, gn_nil]
    unfold swp
    dsimp only
    omega
theorem trn_len (ps : List (Int × Int)) : (trn ps).length = ps.length := by
  unfold trn
  rw [List.length_map, List.length_reverse]
theorem trn_get {ps : List (Int × Int)} {k : Nat} (h : k < ps.length) : (trn ps)[k]? = some (swp (ps.getD (ps.length - 1 - k) (0, 0))) := by
  unfold trn
  rw [List.getElem?_map, List.getElem?_reverse h, List.getD_eq_getElem?_getD, List.getElem?_eq_getElem (by omega)]
  rfl
theorem trn_take (ps : List (Int × Int)) (k : Nat) (h : k ≤ ps.length) : (trn ps).take k = trn (ps.drop (ps.length - k)) := by
  unfold trn
  rw [← List.map_take]
  congr 1
  rw [List.take_reverse]
theorem gn_drop (ps : List (Int × Int)) (k : Nat) : gn (ps.drop k) = gn ps - gn (ps.take k) := by
  have h := gn_append (ps.take k) (ps.drop k)
  rw [List.take_append_drop] at h
  omega
theorem getD_get {ps : List (Int × Int)} {k : Nat} (h : k < ps.length) : ps[k]? = some (ps.getD k (0, 0)) := by
  rw [List.getD_eq_getElem?_getD, List.getElem?_eq_getElem h]
  rfl
/-- turned about the dips are the same, from the end on, less the last height -/
theorem dps_trn (ps : List (Int × Int)) : dps (trn ps) = (dps ps).reverse.map fun d => d - gn ps := by
  apply List.ext_getElem?
  intro k
  by_cases hk : k < ps.length
  · rw [dps_get (by rw [trn_len]; exact hk), List.getElem?_map, List.getElem?_reverse (by rw [dps_len]; exact hk), dps_len, dps_get (by omega)]
    show some (dpA (trn ps) k) = some (dpA ps (ps.length - 1 - k) - gn ps)
    congr 1
    unfold dpA
    have e1 : (trn ps).getD k (0, 0) = swp (ps.getD (ps.length - 1 - k) (0, 0)) := by
      rw [List.getD_eq_getElem?_getD, trn_get hk]
      rfl
    have e2 := gn_take (getD_get (show ps.length - 1 - k < ps.length by omega))
    rw [show ps.length - 1 - k + 1 = ps.length - k by omega] at e2
    rw [e1, trn_take ps k (by omega), gn_trn, gn_drop, e2]
    unfold swp
    dsimp only
    omega
  · rw [List.getElem?_eq_none (by rw [dps_len, trn_len]; omega), List.getElem?_eq_none (by rw [List.length_map, List.length_reverse, dps_len]; omega)]
theorem dpA_succ (x : Int × Int) (r : List (Int × Int)) (k : Nat) : dpA (x :: r) (k + 1) = x.2 - x.1 + dpA r k := by
  unfold dpA
  rw [List.take_succ_cons, gn_cons, List.getD_cons_succ]
  omega
theorem dpA_zero (x : Int × Int) (r : List (Int × Int)) : dpA (x :: r) 0 = - x.1 := by
  unfold dpA
  rw [List.take_zero, gn_nil, List.getD_cons_zero]
  omega
/-- the least purse: no dip is deeper, and it is 0 or some dip's -/
theorem wl_dips : ∀ (ps : List (Int × Int)), (∀ x ∈ ps, Nn x) → (∀ k, k < ps.length → - dpA ps k ≤ (wl ps).1) ∧ ((wl ps).1 = 0 ∨ ∃ k, k < ps.length ∧ (wl ps).1 = - dpA ps k)
  | [], _ => ⟨fun k h => absurd h (Nat.not_lt_zero k), .inl rfl⟩
  | x :: r, h => by
    have hx := h x (List.mem_cons_self ..)
    obtain ⟨ih1, ih2⟩ := wl_dips r fun y hy => h y (List.mem_cons_of_mem _ hy)
    have hr := (wl_nn (ps := r) fun y hy => h y (List.mem_cons_of_mem _ hy)).1
    obtain ⟨h1, h2⟩ := hx
    have e : (wl (x :: r)).1 = x.1 + (if (wl r).1 - x.2 > 0 then (wl r).1 - x.2 else 0) := rfl
    refine ⟨fun k hk => ?_, ?_⟩
    · cases k with
      | zero =>
        rw [dpA_zero, e]
        split <;> omega
      | succ k =>
        have := ih1 k (by rw [List.length_cons] at hk; omega)
        rw [dpA_succ, e]
        split <;> omega
    · by_cases hg : (wl r).1 - x.2 > 0
      · rw [if_pos hg] at e
        rcases ih2 with z | ⟨k, hk, ek⟩
        · omega
        · refine .inr ⟨k + 1, by rw [List.length_cons]; omega, ?_⟩
          rw [dpA_succ, e]
          omega
      · rw [if_neg hg] at e
        refine .inr ⟨0, by rw [List.length_cons]; omega, ?_⟩
        rw [dpA_zero, e]
        omega
theorem wl_max {ps : List (Int × Int)} (h : ∀ x ∈ ps, Nn x) {m : Int} (hm : m ∈ 0 :: (dps ps).map fun d => 0 - d) (ub : ∀ y ∈ 0 :: (dps ps).map fun d => 0 - d, y ≤ m) : (wl ps).1 = m := by
  obtain ⟨h1, h2⟩ := wl_dips ps h
  have mem : ∀ k, k < ps.length → 0 - dpA ps k ∈ 0 :: (dps ps).map fun d => 0 - d := fun k hk =>
    List.mem_cons_of_mem _ (List.mem_map.mpr ⟨dpA ps k, List.mem_of_getElem? (dps_get hk), rfl⟩)
  have u0 := ub 0 (List.mem_cons_self ..)
  have le : (wl ps).1 ≤ m := by
    rcases h2 with z | ⟨k, hk, ek⟩
    · omega
    · have := ub _ (mem k hk)
      omega
  have ge : m ≤ (wl ps).1 := by
    rcases List.mem_cons.mp hm with z | z
    · rw [z]
      exact (wl_nn h).1
    · obtain ⟨d, hd, rfl⟩ := List.mem_map.mp z
      obtain ⟨k, hk⟩ := List.getElem?_of_mem hd
      have hkl : k < ps.length := by
        rw [← dps_len]
        exact (List.getElem?_eq_some_iff.mp hk).1
      rw [dps_get hkl] at hk
      have := h1 k hkl
      cases hk
      omega
  omega
theorem hts_last (ps : List (Int × Int)) : (hts ps)[ps.length]? = some (gn ps) := by
  rw [hts_get (Nat.le_refl _), List.take_length]
/-! ### min of a tuple of whole numbers, > of two such tuples, slices -/
def rMinT (K : PySem.W.Frag) : List V → Hp → VK → Prop := fun vs H Q => ∃ (a : Addr) (n : Int) (ns : List Int), vs = [V.ref a] ∧ H a = some (.tup ((n :: ns).map V.int)) ∧ Q (.int (ns.foldl min n)) H
theorem readsAll_nums {h : Heap} : ∀ {vs : List Value} {ns : List Int}, IntsAre vs ns → ReadsAll h vs (ns.map PyData.int) []
  | _, _, .nil => .nil
  | _, _, .cons n t r => .cons (.int n t) (readsAll_nums r)
theorem minT_ {X : Cx} {K : PySem.W.Frag} (hc : X.calm = true) (hu : X.A.units + 64 < cLine) (hK : X.K = K) : CallR X (.builtin "min") (rMinT K) := by
  subst hK
  intro pins s σ H vs us Q I r h
  obtain ⟨a, n, ns, rfl, ha, q⟩ := h
  obtain ⟨its, rv, hl, _⟩ := I.tuple (.inl (.inl ha))
  rw [Vals.ref1 r]
  have nums : IntsAre its (n :: ns) := rv.ints
  have dep : ∀ l : List Int, PyData.depthAll (l.map PyData.int) = 0 := fun l => by
    induction l with
    | nil => rfl
    | cons x l ih =>
      rw [List.map_cons]
      simp only [PyData.depthAll, PyData.depth, ih]
      rfl
  refine PySem.W.min_tuple_data (x := .int n) (xs := ns.map .int) (I.ok.hd hc) hl (by simpa using readsAll_nums (h := s.heap) nums) ⟨fun x hx y hy => ?_, fun x hx => ?_⟩ ?_ (fun i v h' tk bs e1 rd keep => ?_)
  · have e : ∀ z ∈ PyData.int n :: ns.map PyData.int, ∃ k, z = .int k := fun z hz => by
      rcases List.mem_cons.mp hz with h | h
      · exact ⟨n, h⟩
      · obtain ⟨k, _, e⟩ := List.mem_map.mp h
        exact ⟨k, e.symm⟩
    obtain ⟨k1, rfl⟩ := e x hx
    obtain ⟨k2, rfl⟩ := e y hy
    rfl
  · rcases List.mem_cons.mp hx with h | h
    · rw [h]; exact fun z => nomatch z
    · obtain ⟨k, _, e⟩ := List.mem_map.mp h
      rw [← e]; exact fun z => nomatch z
  · have := dep (n :: ns)
    rw [List.map_cons] at this
    rw [this]
    omega
  · rw [PySem.W.minD_ints] at rd
    cases rd with
    | int _ t => exact ⟨.int _, H, I.kept (t' := tk) keep, ⟨t, rfl⟩, q⟩
theorem foldl_min_mem : ∀ (ns : List Int) (n : Int), ns.foldl min n ∈ n :: ns ∧ ∀ y ∈ n :: ns, ns.foldl min n ≤ y
  | [], n => ⟨List.mem_cons_self .., fun y hy => by rw [List.mem_singleton.mp hy]; exact Int.le_refl _⟩
  | x :: r, n => by
    obtain ⟨h1, h2⟩ := foldl_min_mem r (min n x)
    rw [List.foldl_cons]
    refine ⟨?_, fun y hy => ?_⟩
    · rcases List.mem_cons.mp h1 with h | h
      · rw [h]
        rcases Int.le_total n x with z | z
        · rw [Int.min_eq_left z]; exact List.mem_cons_self ..
        · rw [Int.min_eq_right z]; exact List.mem_cons_of_mem _ (List.mem_cons_self ..)
      · exact List.mem_cons_of_mem _ (List.mem_cons_of_mem _ h)
    · have hm := h2 (min n x) (List.mem_cons_self ..)
      rcases List.mem_cons.mp hy with h | h
      · rw [h]; omega
      · rcases List.mem_cons.mp h with h | h
        · rw [h]; omega
        · exact h2 y (List.mem_cons_of_mem _ h)
def lexGt : List Int → List Int → Bool
  | [], _ => false
  | _ :: _, [] => true
  | x :: r, y :: t => if x = y then lexGt r t else decide (y < x)
def rGtT (K : PySem.W.Frag) : R2 := fun x y H Q => ∃ (a b : Addr) (x1 x2 x3 y1 y2 y3 : Int), x = .ref a ∧ y = .ref b ∧ H a = some (.tup [.int x1, .int x2, .int x3]) ∧ H b = some (.tup [.int y1, .int y2, .int y3]) ∧ Q (.bl (lexGt [x1, x2, x3] [y1, y2, y3])) H
theorem gtT_ {X : Cx} {K : PySem.W.Frag} (hu : X.A.units < cLine) (hK : X.K = K) : OpR X (compareOp .Gt) (rGtT K) := by
  subst hK
  intro pins s σ H x y v u Q I rx ry h
  obtain ⟨a, b, x1, x2, x3, y1, y2, y3, rfl, rfl, ha, hb, q⟩ := h
  cases rx
  cases ry
  obtain ⟨its, r1, p1, _⟩ := I.tuple (xs := [x1, x2, x3].map V.int) (.inl (.inl ha))
  obtain ⟨its2, r2, p2, _⟩ := I.tuple (xs := [y1, y2, y3].map V.int) (.inl (.inl hb))
  have i1 : IntsAre its [x1, x2, x3] := Vals.ints r1
  have i2 : IntsAre its2 [y1, y2, y3] := Vals.ints r2
  have e1 : its.toArray.size = 3 := by rw [List.size_toArray]; exact i1.length
  have e2 : its2.toArray.size = 3 := by rw [List.size_toArray]; exact i2.length
  have at1 : ∀ j (h1 : j < its.toArray.size), ∃ t, its.toArray[j] = .int ([x1, x2, x3].getD j 0) t := fun j h1 => PyProof.Rows.IntsAre.int_at i1 _ _ (by simp at h1; simp [h1])
  have at2 : ∀ j (h1 : j < its2.toArray.size), ∃ t, its2.toArray[j] = .int ([y1, y2, y3].getD j 0) t := fun j h1 => PyProof.Rows.IntsAre.int_at i2 _ _ (by simp at h1; simp [h1])
  have R := Ob.RcOp.tuples_gt (A := X.A) (s := s) (e := fun j => ([x1, x2, x3].getD j 0 == [y1, y2, y3].getD j 0)) (r := fun j => decide ([y1, y2, y3].getD j 0 < [x1, x2, x3].getD j 0)) p1 p2 hu (fun j h1 h2 => by
    obtain ⟨t1, q1⟩ := at1 j h1
    obtain ⟨t2, q2⟩ := at2 j h2
    rw [q1, q2]
    exact SeqAt.EqAt.int_int _ _ _ _) (fun j h1 h2 _ => by
    obtain ⟨t1, q1⟩ := at1 j h1
    obtain ⟨t2, q2⟩ := at2 j h2
    rw [q1, q2]
    exact Ob.RcOp.gt_int _ _ _ _)
  rw [e1, e2] at R
  have el : Ob.lexAt (fun j => ([x1, x2, x3].getD j 0 == [y1, y2, y3].getD j 0)) (fun j => decide ([y1, y2, y3].getD j 0 < [x1, x2, x3].getD j 0)) (decide (3 > 3)) 0 (min 3 3) = lexGt [x1, x2, x3] [y1, y2, y3] := by
    show (if (x1 == y1) = true then (if (x2 == y2) = true then (if (x3 == y3) = true then false else decide (y3 < x3)) else decide (y2 < x2)) else decide (y1 < x1)) = (if x1 = y1 then (if x2 = y2 then (if x3 = y3 then false else decide (y3 < x3)) else decide (y2 < x2)) else decide (y1 < x1))
    simp only [beq_iff_eq]
  rw [el] at R
  have z : wpAny (model X.prog X.w) X.A (compareOp .Gt (.ref a) (.ref b)) (EP X pins σ Q) X.xe s := R X.prog X.w X.xe (EP X pins σ Q) ⟨.bl _, H, I, rfl, q⟩
  exact z
theorem slA_cut {K : PySem.W.Frag} {H : Hp} {l : List D} {v : V} {z1 z2 : Int} {i k : Nat} {Q : VK} (h : At H (.t l) v) (e1 : z1 = (i : Int)) (e2 : z2 = (k : Int)) (hik : i ≤ k) (hk : k ≤ l.length) (q : ∀ H' u, Same H H' → At H' (.t ((l.drop i).take (k - i))) u → Q u H') : rSlA K v (some z1) (some z2) H Q := by
  subst e1 e2
  obtain ⟨a, vs, rfl, ha, av⟩ := h.inv
  have hl := av.length
  refine ⟨a, vs, rfl, .inl (.inl ha), fun hw => ?_, fun hw p np => ?_⟩
  · obtain ⟨h1, h2⟩ := hw
    rw [HT.sIx_nat] at h1 h2
    refine q H _ (Same.refl _) ?_
    have el : (l.drop i).take (k - i) = l := by
      by_cases h0 : l = []
      · subst h0
        rw [List.drop_nil, List.take_nil]
      · have hpos : 0 < l.length := List.length_pos_iff.mpr h0
        have i0 : i = 0 := by omega
        subst i0
        rw [List.drop_zero, List.take_of_length_le (by omega)]
    rw [el]
    exact h
  · refine q _ _ (Same.new np) (At.tup upd_same ?_)
    have ec : cutV vs (some (i : Int)) (some (k : Int)) = (vs.drop i).take (k - i) := by
      unfold cutV
      rw [HT.sIx_nat, HT.sIx_nat, Nat.min_eq_left (by omega), Nat.min_eq_left (by omega)]
    rw [ec]
    exact ((av.drop i).take (k - i)).same (Same.new np)
theorem catA_at {K : PySem.W.Frag} {H : Hp} {l l' : List D} {u v : V} {Q : VK} (h : At H (.t l) u) (h' : At H (.t l') v) (hl : l.length + l'.length ≤ 1000000) (q : ∀ H' w, Same H H' → At H' (.t (l ++ l')) w → Q w H') : rCatA K u v H Q := by
  obtain ⟨a, us, rfl, ha, au⟩ := id h.inv
  obtain ⟨b, vs, rfl, hb, bv⟩ := id h'.inv
  refine ⟨a, b, us, vs, rfl, rfl, .inl (.inl ha), .inl (.inl hb), Nat.le_of_lt (szM (by rw [au.length, bv.length]; exact hl)), fun e => ?_, fun e e2 => ?_, fun e e2 p np => ?_⟩
  · have el : l = [] := List.eq_nil_of_length_eq_zero (by rw [← au.length, e]; rfl)
    refine q H _ (Same.refl _) ?_
    rw [el]
    exact h'
  · have el : l' = [] := List.eq_nil_of_length_eq_zero (by rw [← bv.length, e2]; rfl)
    refine q H _ (Same.refl _) ?_
    rw [el, List.append_nil]
    exact h
  · exact q _ _ (Same.new np) (At.tup upd_same ((AtL.append au bv).same (Same.new np)))
/-! ### the ups of a row -/
def Tl (ps : List (Int × Int)) (k : Nat) : Int := gn (ps.take k)
/-- the least of f s .. f (s + j) -/
def mn (f : Nat → Int) (s : Nat) : Nat → Int
  | 0 => f s
  | j + 1 => if f (s + (j + 1)) < mn f s j then f (s + (j + 1)) else mn f s j
theorem mn_le (f : Nat → Int) (s : Nat) : ∀ (j i : Nat), i ≤ j → mn f s j ≤ f (s + i)
  | 0, i, h => by
    have : i = 0 := by omega
    subst this
    exact Int.le_refl _
  | j + 1, i, h => by
    unfold mn
    by_cases e : i = j + 1
    · subst e
      split <;> omega
    · have := mn_le f s j i (by omega)
      split <;> omega
theorem mn_mem (f : Nat → Int) (s : Nat) : ∀ j : Nat, ∃ i, i ≤ j ∧ mn f s j = f (s + i)
  | 0 => ⟨0, Nat.le_refl _, rfl⟩
  | j + 1 => by
    obtain ⟨i, hi, e⟩ := mn_mem f s j
    unfold mn
    split
    · exact ⟨j + 1, Nat.le_refl _, rfl⟩
    · exact ⟨i, by omega, e⟩
theorem mn_mono (f : Nat → Int) (s : Nat) {i j : Nat} (h : i ≤ j) : mn f s j ≤ mn f s i := by
  obtain ⟨k, hk, e⟩ := mn_mem f s i
  rw [e]
  exact mn_le f s j k (by omega)
theorem mn_ge {f : Nat → Int} {s j : Nat} {x : Int} (h : ∀ i, i ≤ j → x ≤ f (s + i)) : x ≤ mn f s j := by
  obtain ⟨i, hi, e⟩ := mn_mem f s j
  rw [e]
  exact h i hi
/-- the least dip of the pairs from s to below k -/
def Mk (ps : List (Int × Int)) (s k : Nat) : Int := mn (dpA ps) s (k - s - 1)
theorem Mk_mono {ps : List (Int × Int)} {s i j : Nat} (h : i ≤ j) : Mk ps s j ≤ Mk ps s i := mn_mono _ _ (by omega)
theorem Mk_le {ps : List (Int × Int)} {s k j : Nat} (h1 : s ≤ j) (h2 : j < k) : Mk ps s k ≤ dpA ps j := by
  have := mn_le (dpA ps) s (k - s - 1) (j - s) (by omega)
  rw [show s + (j - s) = j by omega] at this
  exact this
theorem Mk_ge {ps : List (Int × Int)} {s k : Nat} {x : Int} (hk : s < k) (h : ∀ j, s ≤ j → j < k → x ≤ dpA ps j) : x ≤ Mk ps s k :=
  mn_ge fun i hi => h (s + i) (by omega) (by omega)
theorem Mk_mem {ps : List (Int × Int)} {s k : Nat} (hk : s < k) : ∃ j, s ≤ j ∧ j < k ∧ Mk ps s k = dpA ps j := by
  obtain ⟨i, hi, e⟩ := mn_mem (dpA ps) s (k - s - 1)
  exact ⟨s + i, by omega, by omega, e⟩
/-- e is no worse than k: by the least dip, the height, the length -/
def Ok3 (ps : List (Int × Int)) (s k e : Nat) : Prop := Mk ps s k < Mk ps s e ∨ (Mk ps s k = Mk ps s e ∧ (Tl ps k < Tl ps e ∨ (Tl ps k = Tl ps e ∧ k ≤ e)))
def IsUp (ps : List (Int × Int)) (s e : Nat) : Prop :=
  (e = s ∧ ∀ k, s < k → k ≤ ps.length → Tl ps k ≤ Tl ps s) ∨ (s < e ∧ e ≤ ps.length ∧ Tl ps s < Tl ps e ∧ ∀ k, s < k → k ≤ ps.length → Tl ps s < Tl ps k → Ok3 ps s k e)
theorem IsUp.uniq {ps : List (Int × Int)} {s e e' : Nat} (h : IsUp ps s e) (h' : IsUp ps s e') : e = e' := by
  rcases h with ⟨h1, h2⟩ | ⟨h1, h2, h3, h4⟩
  · rcases h' with ⟨g1, g2⟩ | ⟨g1, g2, g3, g4⟩
    · omega
    · have := h2 e' g1 g2
      omega
  · rcases h' with ⟨g1, g2⟩ | ⟨g1, g2, g3, g4⟩
    · have := g2 e h1 h2
      omega
    · have a := h4 e' g1 g2 g3
      have b := g4 e h1 h2 h3
      unfold Ok3 at a b
      omega
theorem IsUp.bd {ps : List (Int × Int)} {s e : Nat} (h : IsUp ps s e) (hs : s ≤ ps.length) : e ≤ ps.length := by
  rcases h with ⟨a, b⟩ | ⟨a, b, c⟩
  · omega
  · exact b
inductive IsUps (ps : List (Int × Int)) : Nat → List (Nat × Nat) → Prop
  | nil {s : Nat} : IsUp ps s s → IsUps ps s []
  | cons {s e : Nat} {l : List (Nat × Nat)} : IsUp ps s e → s < e → IsUps ps e l → IsUps ps s ((s, e) :: l)
theorem IsUps.uniq {ps : List (Int × Int)} : ∀ {l l' : List (Nat × Nat)} {s : Nat}, IsUps ps s l → IsUps ps s l' → l = l'
  | [], [], _, _, _ => rfl
  | [], _ :: _, _, .nil h, .cons g1 g2 _ => by
    have := h.uniq g1
    omega
  | _ :: _, [], _, .cons g1 g2 _, .nil h => by
    have := h.uniq g1
    omega
  | _ :: _, _ :: _, _, .cons g1 g2 g3, .cons h1 h2 h3 => by
    have e := g1.uniq h1
    subst e
    rw [IsUps.uniq g3 h3]
/-- where the last of them ends -/
def lastE : Nat → List (Nat × Nat) → Nat
  | s, [] => s
  | _, x :: l => lastE x.2 l
theorem IsUps.le {ps : List (Int × Int)} : ∀ {l : List (Nat × Nat)} {s : Nat}, IsUps ps s l → s ≤ ps.length → s ≤ lastE s l ∧ lastE s l ≤ ps.length
  | [], _, _, h => ⟨Nat.le_refl _, h⟩
  | _ :: _, _, .cons g1 g2 g3, h => by
    have he := g1.bd h
    have := IsUps.le g3 he
    exact ⟨Nat.le_trans (Nat.le_of_lt g2) this.1, this.2⟩
theorem lastE_last : ∀ {l : List (Nat × Nat)} {s : Nat} {x : Nat × Nat}, l.getLast? = some x → lastE s l = x.2
  | [], _, _, h => by cases h
  | [y], _, x, h => by
    have e : y = x := Option.some.inj h
    subst e
    rfl
  | y :: z :: l, s, x, h => by
    rw [List.getLast?_cons_cons] at h
    exact lastE_last (l := z :: l) (s := y.2) h
theorem IsUps.len {ps : List (Int × Int)} : ∀ {l : List (Nat × Nat)} {s : Nat}, IsUps ps s l → s ≤ ps.length → l.length + s ≤ ps.length
  | [], _, _, h => by rw [List.length_nil]; omega
  | _ :: _, _, .cons g1 g2 g3, h => by
    have he := g1.bd h
    have := IsUps.len g3 he
    rw [List.length_cons]
    omega
/-- the first place above s -/
def IsAbove (ps : List (Int × Int)) (s : Nat) : Option Nat → Prop
  | none => ∀ k, s < k → k ≤ ps.length → Tl ps k ≤ Tl ps s
  | some a => s < a ∧ a ≤ ps.length ∧ Tl ps s < Tl ps a ∧ ∀ k, s < k → k < a → Tl ps k ≤ Tl ps s
/-- while it is looked for the end: at, best -/
structure Look (ps : List (Int × Int)) (s a : Nat) (fl : Int) (t b : Nat) : Prop where
  h1 : a ≤ t
  h2 : t ≤ ps.length
  h3 : a ≤ b
  h4 : b ≤ t
  h5 : ∀ k, a ≤ k → k < t → fl ≤ dpA ps k
  h6 : ∀ k, a ≤ k → k ≤ t → Tl ps k ≤ Tl ps b
  h7 : ∀ k, b < k → k ≤ t → Tl ps k < Tl ps b
theorem Look.fin {ps : List (Int × Int)} {s a t b : Nat} {fl : Int} (ab : IsAbove ps s (some a)) (efl : fl = Mk ps s a) (h : Look ps s a fl t b) (stop : t = ps.length ∨ (t < ps.length ∧ dpA ps t < fl)) : IsUp ps s b := by
  obtain ⟨a1, a2, a3, a4⟩ := ab
  obtain ⟨h1, h2, h3, h4, h5, h6, h7⟩ := h
  have eM : ∀ k, a ≤ k → k ≤ t → Mk ps s k = fl := fun k hk hkt => by
    have l1 := Mk_mono (ps := ps) (s := s) hk
    have l2 : fl ≤ Mk ps s k := Mk_ge (by omega) fun j hj hjk => by
      by_cases hja : j < a
      · rw [efl]; exact Mk_le hj hja
      · exact h5 j (by omega) (by omega)
    omega
  have hb := h6 a (Nat.le_refl _) h1
  refine .inr ⟨by omega, by omega, by omega, fun k hk hkn hkT => ?_⟩
  have hka : a ≤ k := by
    rcases Nat.lt_or_ge k a with z | z
    · have := a4 k hk z
      omega
    · exact z
  unfold Ok3
  by_cases hkt : k ≤ t
  · have e1 := eM k hka hkt
    have e2 := eM b h3 h4
    have e3 := h6 k hka hkt
    refine .inr ⟨by omega, ?_⟩
    by_cases hbk : b < k
    · exact .inl (h7 k hbk hkt)
    · by_cases e : Tl ps k = Tl ps b
      · exact .inr ⟨e, by omega⟩
      · exact .inl (by omega)
  · rcases stop with z | ⟨z1, z2⟩
    · omega
    · have e2 := eM b h3 h4
      have e3 := Mk_le (ps := ps) (s := s) (k := k) (j := t) (by omega) (by omega)
      exact .inl (by omega)
theorem Look.step {ps : List (Int × Int)} {s a t b : Nat} {fl : Int} (h : Look ps s a fl t b) (ht : t < ps.length) (hd : fl ≤ dpA ps t) : Look ps s a fl (t + 1) (if Tl ps b ≤ Tl ps (t + 1) then t + 1 else b) := by
  obtain ⟨h1, h2, h3, h4, h5, h6, h7⟩ := h
  have g5 : ∀ k, a ≤ k → k < t + 1 → fl ≤ dpA ps k := fun k hk hkt => by
    by_cases e : k = t
    · rw [e]; exact hd
    · exact h5 k hk (by omega)
  by_cases e : Tl ps b ≤ Tl ps (t + 1)
  · rw [if_pos e]
    refine ⟨by omega, by omega, by omega, by omega, g5, fun k hk hkt => ?_, fun k hk hkt => by omega⟩
    by_cases e2 : k = t + 1
    · rw [e2]; omega
    · have := h6 k hk (by omega)
      omega
  · rw [if_neg e]
    refine ⟨by omega, by omega, by omega, by omega, g5, fun k hk hkt => ?_, fun k hk hkt => ?_⟩
    · by_cases e2 : k = t + 1
      · rw [e2]; omega
      · exact h6 k hk (by omega)
    · by_cases e2 : k = t + 1
      · rw [e2]; omega
      · exact h7 k hk (by omega)
theorem Look.start {ps : List (Int × Int)} {s a : Nat} {fl : Int} (ab : IsAbove ps s (some a)) : Look ps s a fl a a := by
  obtain ⟨a1, a2, a3, a4⟩ := ab
  exact ⟨Nat.le_refl _, a2, Nat.le_refl _, Nat.le_refl _, fun k _ _ => by omega, fun k _ _ => by rw [show k = a by omega]; exact Int.le_refl _, fun k _ _ => by omega⟩
/-- the middle's end -/
def IsMid (ps : List (Int × Int)) (s m : Nat) : Prop := s ≤ m ∧ m ≤ ps.length ∧ Tl ps m = Tl ps s ∧ ∀ k, m < k → k ≤ ps.length → Tl ps k ≠ Tl ps s
theorem IsMid.uniq {ps : List (Int × Int)} {s m m' : Nat} (h : IsMid ps s m) (h' : IsMid ps s m') : m = m' := by
  obtain ⟨h1, h2, h3, h4⟩ := h
  obtain ⟨g1, g2, g3, g4⟩ := h'
  rcases Nat.lt_trichotomy m m' with z | z | z
  · exact absurd g3 (h4 m' z g2)
  · exact z
  · exact absurd h3 (g4 m z h2)
/-- places, as pairs of numbers -/
def cst (x : Nat × Nat) : Int × Int := ((x.1 : Int), (x.2 : Int))
/-- the downs behind the middle -/
def dwn (n : Nat) (l : List (Nat × Nat)) : List (Int × Int) := l.reverse.map fun x => ((n : Int) - (x.2 : Int), (n : Int) - (x.1 : Int))
theorem Tl_succ {ps : List (Int × Int)} {k : Nat} (h : k < ps.length) : Tl ps (k + 1) = Tl ps k - (ps.getD k (0, 0)).1 + (ps.getD k (0, 0)).2 := by
  unfold Tl
  rw [gn_take (getD_get h)]
  omega
theorem foldl_Mk {ps : List (Int × Int)} {s a : Nat} {n : Int} {ns : List Int} (h : s < a) (ha : a ≤ ps.length) (e : ((dps ps).drop s).take (a - s) = n :: ns) : ns.foldl min n = Mk ps s a := by
  obtain ⟨h1, h2⟩ := foldl_min_mem ns n
  rw [← e] at h1 h2
  have get : ∀ i, i < a - s → (((dps ps).drop s).take (a - s))[i]? = some (dpA ps (s + i)) := fun i hi => by
    rw [List.getElem?_take_of_lt hi, List.getElem?_drop, dps_get (by omega)]
  have le : ns.foldl min n ≤ Mk ps s a := Mk_ge h fun j hj hja => by
    have := get (j - s) (by omega)
    rw [show s + (j - s) = j by omega] at this
    exact h2 _ (List.mem_of_getElem? this)
  have ge : Mk ps s a ≤ ns.foldl min n := by
    obtain ⟨i, hi⟩ := List.getElem?_of_mem h1
    have hil : i < a - s := by
      have := (List.getElem?_eq_some_iff.mp hi).1
      rw [List.length_take] at this
      omega
    rw [get i hil] at hi
    have := Option.some.inj hi
    rw [← this]
    exact Mk_le (by omega) (by omega)
  omega
/-! ### the law's own looking for ups -/
theorem lexGt3 {a b c a' b' c' : Int} : lexGt [a, b, c] [a', b', c'] = true ↔ a' < a ∨ (a = a' ∧ (b' < b ∨ (b = b' ∧ c' < c))) := by
  unfold lexGt
  by_cases h1 : a = a'
  · rw [if_pos h1]
    unfold lexGt
    by_cases h2 : b = b'
    · rw [if_pos h2]
      unfold lexGt
      by_cases h3 : c = c'
      · rw [if_pos h3]
        unfold lexGt
        constructor
        · intro z; cases z
        · intro z; omega
      · rw [if_neg h3, decide_eq_true_iff]
        omega
    · rw [if_neg h2, decide_eq_true_iff]
      omega
  · rw [if_neg h1, decide_eq_true_iff]
    omega
/-- chosen so far, of the beginnings up to k -/
def Cho (ps : List (Int × Int)) (s k : Nat) : Option Nat → Prop
  | none => ∀ j, s < j → j ≤ k → Tl ps j ≤ Tl ps s
  | some e => s < e ∧ e ≤ k ∧ Tl ps s < Tl ps e ∧ ∀ j, s < j → j ≤ k → Tl ps s < Tl ps j → Ok3 ps s j e
theorem Cho.fin {ps : List (Int × Int)} {s : Nat} : ∀ {o : Option Nat}, Cho ps s ps.length o → IsUp ps s (o.getD s)
  | none, h => .inl ⟨rfl, fun k h1 h2 => h k h1 h2⟩
  | some e, h => .inr ⟨h.1, h.2.1, h.2.2.1, fun k h1 h2 h3 => h.2.2.2 k h1 h2 h3⟩
theorem Cho.skip {ps : List (Int × Int)} {s k : Nat} (hl : Tl ps (k + 1) ≤ Tl ps s) : ∀ {o : Option Nat}, Cho ps s k o → Cho ps s (k + 1) o
  | none, h => fun j h1 h2 => by
    by_cases e : j = k + 1
    · rw [e]; exact hl
    · exact h j h1 (by omega)
  | some e, h => ⟨h.1, by have := h.2.1; omega, h.2.2.1, fun j h1 h2 h3 => by
    by_cases ej : j = k + 1
    · rw [ej] at h3; omega
    · exact h.2.2.2 j h1 (by omega) h3⟩
theorem Cho.first {ps : List (Int × Int)} {s k : Nat} (hs : s ≤ k) (hl : Tl ps s < Tl ps (k + 1)) (h : Cho ps s k none) : Cho ps s (k + 1) (some (k + 1)) :=
  ⟨by omega, Nat.le_refl _, hl, fun j h1 h2 h3 => by
    by_cases ej : j = k + 1
    · rw [ej]; exact .inr ⟨rfl, .inr ⟨rfl, Nat.le_refl _⟩⟩
    · have := h j h1 (by omega)
      omega⟩
theorem Cho.better {ps : List (Int × Int)} {s k e : Nat} (hs : s ≤ k) (hl : Tl ps s < Tl ps (k + 1)) (h : Cho ps s k (some e)) (g : Mk ps s e < Mk ps s (k + 1) ∨ (Mk ps s (k + 1) = Mk ps s e ∧ (Tl ps e < Tl ps (k + 1) ∨ (Tl ps (k + 1) = Tl ps e ∧ e < k + 1)))) : Cho ps s (k + 1) (some (k + 1)) :=
  ⟨by omega, Nat.le_refl _, hl, fun j h1 h2 h3 => by
    by_cases ej : j = k + 1
    · rw [ej]; exact .inr ⟨rfl, .inr ⟨rfl, Nat.le_refl _⟩⟩
    · have := h.2.2.2 j h1 (by omega) h3
      unfold Ok3 at *
      omega⟩
theorem Cho.stay {ps : List (Int × Int)} {s k e : Nat} (h : Cho ps s k (some e)) (g : ¬ (Mk ps s e < Mk ps s (k + 1) ∨ (Mk ps s (k + 1) = Mk ps s e ∧ (Tl ps e < Tl ps (k + 1) ∨ (Tl ps (k + 1) = Tl ps e ∧ e < k + 1))))) : Cho ps s (k + 1) (some e) :=
  ⟨h.1, by have := h.2.1; omega, h.2.2.1, fun j h1 h2 h3 => by
    by_cases ej : j = k + 1
    · rw [ej]
      unfold Ok3
      omega
    · exact h.2.2.2 j h1 (by omega) h3⟩
/-- the deepest dip so far, from the beginning's height -/
def dpt (ps : List (Int × Int)) (s i : Nat) : Int := if i = 0 then 0 else Mk ps s (s + i) - Tl ps s
theorem dpt_succ {ps : List (Int × Int)} {s i : Nat} (hn : 0 ≤ (ps.getD (s + i) (0, 0)).1) : (if Tl ps (s + i) - Tl ps s - (ps.getD (s + i) (0, 0)).1 < dpt ps s i then Tl ps (s + i) - Tl ps s - (ps.getD (s + i) (0, 0)).1 else dpt ps s i) = dpt ps s (i + 1) := by
  have ed : Tl ps (s + i) - (ps.getD (s + i) (0, 0)).1 = dpA ps (s + i) := rfl
  unfold dpt
  rw [if_neg (show ¬ i + 1 = 0 by omega)]
  by_cases h0 : i = 0
  · subst h0
    rw [if_pos rfl]
    have e1 : Mk ps s (s + (0 + 1)) = dpA ps s := by
      unfold Mk
      rw [show s + (0 + 1) - s - 1 = 0 by omega]
      rfl
    rw [e1]
    rw [show s + 0 = s by omega] at ed hn ⊢
    split <;> omega
  · rw [if_neg h0]
    obtain ⟨j, rfl⟩ : ∃ j, i = j + 1 := ⟨i - 1, by omega⟩
    have e1 : Mk ps s (s + (j + 1 + 1)) = if dpA ps (s + (j + 1)) < Mk ps s (s + (j + 1)) then dpA ps (s + (j + 1)) else Mk ps s (s + (j + 1)) := by
      unfold Mk
      rw [show s + (j + 1 + 1) - s - 1 = j + 1 by omega, show s + (j + 1) - s - 1 = j by omega]
      rfl
    rw [e1, ← ed]
    repeat' split
    all_goals omega
theorem trn_take_succ {ps : List (Int × Int)} {i : Nat} {r : Int × Int} (h : ps[i]? = some r) : trn (ps.take (i + 1)) = swp r :: trn (ps.take i) := by
  unfold trn
  rw [List.take_add_one, h, List.reverse_append]
  rfl
theorem trn_nn {ps : List (Int × Int)} (h : ∀ x ∈ ps, Nn x) : ∀ x ∈ trn ps, Nn x := fun x hx => by
  unfold trn at hx
  obtain ⟨y, hy, rfl⟩ := List.mem_map.mp hx
  have := h y (List.mem_reverse.mp hy)
  exact ⟨this.2, this.1⟩
theorem trn_bd {ps : List (Int × Int)} (h : ∀ x ∈ ps, Bd x) : ∀ x ∈ trn ps, Bd x := fun x hx => by
  unfold trn at hx
  obtain ⟨y, hy, rfl⟩ := List.mem_map.mp hx
  have := h y (List.mem_reverse.mp hy)
  exact ⟨this.2.2.1, this.2.2.2, this.1, this.2.1⟩
theorem IsUps.mem {ps : List (Int × Int)} : ∀ {l : List (Nat × Nat)} {s : Nat}, IsUps ps s l → s ≤ ps.length → ∀ x ∈ l, x.1 ≤ ps.length ∧ x.2 ≤ ps.length
  | [], _, _, _, x, hx => by cases hx
  | _ :: _, _, .cons g1 g2 g3, h, x, hx => by
    have he := g1.bd h
    rcases List.mem_cons.mp hx with z | z
    · rw [z]; exact ⟨h, he⟩
    · exact IsUps.mem g3 he x z
theorem small_sm {x : Int} (h : x.natAbs ≤ 100000) : x.natAbs < 2 ^ 1900 := Nat.lt_of_le_of_lt h (Nat.lt_of_lt_of_le (show 100000 < 2 ^ 20 by decide) (Nat.pow_le_pow_right (by decide) (by decide)))
/-- a cut as data is shown -/
theorem cut_shown {n : Nat} {L LD : List (Nat × Nat)} {m e : Nat} (hn : n ≤ 1000) (hm : m ≤ n) (he : e ≤ n) (h1 : ∀ x ∈ L, x.1 ≤ n ∧ x.2 ≤ n) (h2 : ∀ x ∈ LD, x.1 ≤ n ∧ x.2 ≤ n) (l1 : L.length ≤ n) (l2 : LD.length ≤ n) :
    Dep 40 (.t [dR (L.map cst), dP ((e : Int), (m : Int)), dR (dwn n LD)]) ∧ Sm (.t [dR (L.map cst), dP ((e : Int), (m : Int)), dR (dwn n LD)]) ∧ wt (.t [dR (L.map cst), dP ((e : Int), (m : Int)), dR (dwn n LD)]) ≤ sizeLine := by
  have ld : (dwn n LD).length = LD.length := by unfold dwn; rw [List.length_map, List.length_reverse]
  have s1 : Sm (dR (L.map cst)) := sm_row fun x hx => by
    obtain ⟨y, hy, rfl⟩ := List.mem_map.mp hx
    have := h1 y hy
    exact sm_pair (small_sm (by show ((y.1 : Nat) : Int).natAbs ≤ _; omega)) (small_sm (by show ((y.2 : Nat) : Int).natAbs ≤ _; omega))
  have s2 : Sm (dP ((e : Int), (m : Int))) := sm_pair (small_sm (by show ((e : Nat) : Int).natAbs ≤ _; omega)) (small_sm (by show ((m : Nat) : Int).natAbs ≤ _; omega))
  have s3 : Sm (dR (dwn n LD)) := sm_row fun x hx => by
    unfold dwn at hx
    obtain ⟨y, hy, rfl⟩ := List.mem_map.mp hx
    have := h2 y (List.mem_reverse.mp hy)
    exact sm_pair (small_sm (by dsimp only; omega)) (small_sm (by dsimp only; omega))
  refine ⟨⟨(show 3 ≤ 1000000 by decide), fun d hd => ?_⟩, ?_, ?_⟩
  · rcases List.mem_cons.mp hd with z | z
    · rw [z]; exact Dep.le (by decide) (Dep.row (by rw [List.length_map]; omega))
    rcases List.mem_cons.mp z with z | z
    · rw [z]; exact Dep.le (by decide) (Dep.pair _)
    · rw [List.mem_singleton.mp z]; exact Dep.le (by decide) (Dep.row (by rw [ld]; omega))
  · unfold Sm
    unfold SmL
    refine ⟨s1, ?_⟩
    unfold SmL
    refine ⟨s2, ?_⟩
    unfold SmL
    exact ⟨s3, by unfold SmL; trivial⟩
  · have w1 : wt (dR (L.map cst)) = 3859 * L.length + 3 := by
      unfold wt
      rw [wt_rowL, List.length_map]
    have w3 : wt (dR (dwn n LD)) = 3859 * LD.length + 3 := by
      unfold wt
      rw [wt_rowL, ld]
    have e0 : wt (.t [dR (L.map cst), dP ((e : Int), (m : Int)), dR (dwn n LD)]) = wt (dR (L.map cst)) + 2 + (wt (dP ((e : Int), (m : Int))) + 2 + (wt (dR (dwn n LD)) + 2 + 0)) + 3 := by
      simp only [wt, wtL]
    rw [e0, w1, w3, wt_pair, sizeLine_eq]
    omega
/-! ### one behind another, without a gap -/
def Ch : Int → List (Int × Int) → Int → Prop
  | a, [], b => a = b
  | a, x :: l, b => x.1 = a ∧ x.1 < x.2 ∧ Ch x.2 l b
theorem Ch.append : ∀ {l : List (Int × Int)} {a b : Int} {x : Int × Int}, Ch a l b → x.1 = b → x.1 < x.2 → Ch a (l ++ [x]) x.2
  | [], a, b, x, h, h1, h2 => by
    have e : a = b := h
    exact ⟨by omega, h2, rfl⟩
  | y :: l, a, b, x, h, h1, h2 => ⟨h.1, h.2.1, Ch.append h.2.2 h1 h2⟩
theorem IsUps.chain {ps : List (Int × Int)} (n : Nat) : ∀ {l : List (Nat × Nat)} {s : Nat}, IsUps ps s l → Ch ((n : Int) - (lastE s l : Nat)) (dwn n l) ((n : Int) - (s : Nat))
  | [], s, _ => rfl
  | _ :: l, s, .cons (e := e) g1 g2 g3 => by
    have ih := IsUps.chain n g3
    have ed : dwn n ((s, e) :: l) = dwn n l ++ [((n : Int) - (e : Int), (n : Int) - (s : Int))] := by
      unfold dwn
      rw [List.reverse_cons, List.map_append]
      rfl
    rw [ed]
    exact Ch.append (x := ((n : Int) - (e : Int), (n : Int) - (s : Int))) ih rfl (by dsimp only; omega)
theorem IsUps.last {ps : List (Int × Int)} : ∀ {l : List (Nat × Nat)} {s : Nat}, IsUps ps s l → IsUp ps (lastE s l) (lastE s l)
  | [], _, .nil h => h
  | _ :: _, _, .cons _ _ g3 => by
    have z := IsUps.last g3
    exact z
theorem IsUp.flat {ps : List (Int × Int)} {s : Nat} (h : IsUp ps s s) : ∀ k, s < k → k ≤ ps.length → Tl ps k ≤ Tl ps s := by
  rcases h with ⟨_, h⟩ | ⟨h, _⟩
  · exact h
  · omega
theorem Tl_trn {ps : List (Int × Int)} {m k : Nat} (hm : m ≤ ps.length) (hk : k ≤ ps.length - m) : Tl (trn (ps.drop m)) k = Tl ps (ps.length - k) - Tl ps ps.length := by
  unfold Tl
  have hl : (ps.drop m).length = ps.length - m := List.length_drop ..
  rw [trn_take _ k (by rw [hl]; exact hk), gn_trn, List.drop_drop, hl, gn_drop, List.take_length]
  rw [show m + (ps.length - m - k) = ps.length - k by omega]
  omega
/-- the downs cover all of what is left -/
theorem cut_covers {ps : List (Int × Int)} {L LD : List (Nat × Nat)} {m : Nat} (up : IsUps ps 0 L) (md : IsMid ps (lastE 0 L) m) (dn : IsUps (trn (ps.drop m)) 0 LD) : Ch (m : Int) (dwn ps.length LD) (ps.length : Int) := by
  have fl := up.last.flat
  obtain ⟨m1, m2, m3, m4⟩ := md
  have below : ∀ k, m < k → k ≤ ps.length → Tl ps k < Tl ps m := fun k h1 h2 => by
    have := fl k (by omega) h2
    have := m4 k h1 h2
    omega
  have hl : (trn (ps.drop m)).length = ps.length - m := by rw [trn_len, List.length_drop]
  have hle := (dn.le (Nat.zero_le _)).2
  rw [hl] at hle
  have all : lastE 0 LD = ps.length - m := by
    rcases Nat.lt_or_ge (lastE 0 LD) (ps.length - m) with z | z
    · have h1 := dn.last.flat (ps.length - m) z (by rw [hl]; exact Nat.le_refl _)
      rw [Tl_trn m2 (Nat.le_refl _), Tl_trn m2 (by omega), show ps.length - (ps.length - m) = m by omega] at h1
      have h2 := below (ps.length - lastE 0 LD) (by omega) (by omega)
      omega
    · omega
  have c := dn.chain ps.length
  rw [all] at c
  rw [show (ps.length : Int) - ((ps.length - m : Nat) : Int) = (m : Int) by omega, show (ps.length : Int) - ((0 : Nat) : Int) = (ps.length : Int) by omega] at c
  exact c
/-! ### stretches as pairs -/
def seg (ps : List (Int × Int)) (s e : Nat) : List (Int × Int) := (ps.drop s).take (e - s)
theorem wl_gain : ∀ {ps : List (Int × Int)}, (wl ps).2 - (wl ps).1 = gn ps
  | [] => rfl
  | x :: r => by
    have ih := wl_gain (ps := r)
    rw [gn_cons, show wl (x :: r) = jn x (wl r) from rfl]
    unfold jn
    dsimp only
    repeat' split
    all_goals omega
theorem seg_len {ps : List (Int × Int)} {s e : Nat} (he : e ≤ ps.length) : (seg ps s e).length = e - s := by
  unfold seg
  rw [List.length_take, List.length_drop]
  omega
theorem seg_get {ps : List (Int × Int)} {s e k : Nat} (hk : k < e - s) : (seg ps s e)[k]? = ps[s + k]? := by
  unfold seg
  rw [List.getElem?_take_of_lt hk, List.getElem?_drop]
theorem seg_take {ps : List (Int × Int)} {s e k : Nat} (hk : k ≤ e - s) : gn ((seg ps s e).take k) = Tl ps (s + k) - Tl ps s := by
  unfold seg Tl
  rw [List.take_take, Nat.min_eq_left hk]
  have h := gn_append (ps.take s) ((ps.drop s).take k)
  rw [← List.take_add] at h
  omega
theorem seg_nn {ps : List (Int × Int)} (h : ∀ x ∈ ps, Nn x) (s e : Nat) : ∀ x ∈ seg ps s e, Nn x := fun x hx => h x (List.mem_of_mem_drop (List.mem_of_mem_take hx))
theorem seg_dp {ps : List (Int × Int)} {s e k : Nat} (he : e ≤ ps.length) (hk : k < e - s) : dpA (seg ps s e) k = dpA ps (s + k) - Tl ps s := by
  unfold dpA
  rw [seg_take (Nat.le_of_lt hk), List.getD_eq_getElem?_getD, List.getD_eq_getElem?_getD, seg_get hk]
  unfold Tl
  omega
theorem wl_seg {ps : List (Int × Int)} {s e : Nat} (h : ∀ x ∈ ps, Nn x) (hs : s < e) (he : e ≤ ps.length) : wl (seg ps s e) = (Tl ps s - Mk ps s e, Tl ps e - Mk ps s e) := by
  obtain ⟨h1, h2⟩ := wl_dips (seg ps s e) (seg_nn h s e)
  have hl := seg_len (ps := ps) (s := s) he
  have hg := wl_gain (ps := seg ps s e)
  have hgn : gn (seg ps s e) = Tl ps e - Tl ps s := by
    have := seg_take (ps := ps) (s := s) (e := e) (k := e - s) (Nat.le_refl _)
    rw [List.take_of_length_le (by rw [hl]; exact Nat.le_refl _), show s + (e - s) = e by omega] at this
    exact this
  have up : (wl (seg ps s e)).1 ≤ Tl ps s - Mk ps s e := by
    rcases h2 with z | ⟨k, hk, ek⟩
    · have n0 : 0 ≤ (ps.getD s (0, 0)).1 := (h _ (List.mem_of_getElem? (getD_get (show s < ps.length by omega)))).1
      have m0 := Mk_le (ps := ps) (s := s) (k := e) (Nat.le_refl s) hs
      have ed : dpA ps s = Tl ps s - (ps.getD s (0, 0)).1 := rfl
      omega
    · rw [hl] at hk
      rw [ek, seg_dp he hk]
      have := Mk_le (ps := ps) (s := s) (k := e) (j := s + k) (by omega) (by omega)
      omega
  have dn : Tl ps s - Mk ps s e ≤ (wl (seg ps s e)).1 := by
    obtain ⟨j, j1, j2, ej⟩ := Mk_mem (ps := ps) hs
    have := h1 (j - s) (by rw [hl]; omega)
    rw [seg_dp he (by omega), show s + (j - s) = j by omega] at this
    omega
  exact Prod.ext (by dsimp only; omega) (by dsimp only; omega)
/-- rising numbers -/
def Ris : List Int → Prop
  | [] => True
  | [_] => True
  | x :: y :: l => x < y ∧ Ris (y :: l)
def flat2 (ps : List (Int × Int)) : List (Nat × Nat) → List Int
  | [] => []
  | x :: l => (Tl ps x.1 - Mk ps x.1 x.2) :: (Tl ps x.2 - Mk ps x.1 x.2) :: flat2 ps l
theorem IsUp.deeper {ps : List (Int × Int)} {s e e2 : Nat} (h : IsUp ps s e) (hs : s < e) (h2 : IsUp ps e e2) (hs2 : e < e2) : Mk ps e e2 < Mk ps s e := by
  rcases h with ⟨a, _⟩ | ⟨_, _, a3, a4⟩
  · omega
  rcases h2 with ⟨b, _⟩ | ⟨_, b2, b3, _⟩
  · omega
  have o := a4 e2 (by omega) b2 (by omega)
  unfold Ok3 at o
  have lt : Mk ps s e2 < Mk ps s e := by omega
  obtain ⟨j, j1, j2, ej⟩ := Mk_mem (ps := ps) (s := s) (k := e2) (by omega)
  have hje : e ≤ j := by
    rcases Nat.lt_or_ge j e with z | z
    · have := Mk_le (ps := ps) (s := s) (k := e) j1 z
      omega
    · exact z
  have := Mk_le (ps := ps) (s := e) (k := e2) hje j2
  omega
theorem IsUps.rises {ps : List (Int × Int)} : ∀ {l : List (Nat × Nat)} {s : Nat}, IsUps ps s l → Ris (flat2 ps l)
  | [], _, _ => trivial
  | [_], _, .cons (s := s) (e := e) g1 g2 _ => by
    rcases g1 with ⟨a, _⟩ | ⟨_, _, a3, _⟩
    · omega
    exact ⟨by dsimp only; omega, trivial⟩
  | _ :: _ :: l, _, .cons (s := s) (e := e) g1 g2 (.cons (e := e2) k1 k2 k3) => by
    have ih := IsUps.rises (IsUps.cons k1 k2 k3)
    have dp := g1.deeper g2 k1 k2
    rcases g1 with ⟨a, _⟩ | ⟨_, _, a3, _⟩
    · omega
    exact ⟨by dsimp only; omega, by dsimp only; omega, ih⟩
/-- no height is above where the ups end -/
theorem IsUps.highest {ps : List (Int × Int)} : ∀ {l : List (Nat × Nat)} {s : Nat}, IsUps ps s l → ∀ k, s ≤ k → k ≤ ps.length → Tl ps k ≤ Tl ps (lastE s l)
  | [], s, .nil h, k, h1, h2 => by
    by_cases e : k = s
    · rw [e]; exact Int.le_refl _
    · exact h.flat k (by omega) h2
  | _ :: l, _, .cons (s := s) (e := e) g1 g2 g3, k, h1, h2 => by
    have ih := IsUps.highest g3
    have en := g1.bd (by omega)
    show Tl ps k ≤ Tl ps (lastE e l)
    rcases Nat.lt_or_ge k e with z | z
    · have he := ih e (Nat.le_refl _) en
      rcases g1 with ⟨a, _⟩ | ⟨_, _, a3, a4⟩
      · omega
      by_cases hk : Tl ps s < Tl ps k
      · have hsk : s < k := by
          rcases Nat.lt_or_ge s k with y | y
          · exact y
          · rw [show k = s by omega] at hk; omega
        have o := a4 k hsk h2 hk
        have mm := Mk_mono (ps := ps) (s := s) (Nat.le_of_lt z)
        unfold Ok3 at o
        omega
      · omega
    · exact ih k z h2
theorem jn_swp (a b : Int × Int) : jn (swp b) (swp a) = swp (jn a b) := by
  unfold jn swp
  rfl
theorem wl_trn : ∀ {ps : List (Int × Int)}, (∀ x ∈ ps, Nn x) → wl (trn ps) = swp (wl ps)
  | [], _ => rfl
  | x :: r, h => by
    have hx := h x (List.mem_cons_self ..)
    have e : trn (x :: r) = trn r ++ [swp x] := by
      unfold trn
      rw [List.reverse_cons, List.map_append]
      rfl
    have n1 : ∀ y ∈ [swp x], Nn y := fun y hy => by
      rw [List.mem_singleton.mp hy]
      exact ⟨hx.2, hx.1⟩
    rw [e, wl_append _ _ n1, wl_trn fun y hy => h y (List.mem_cons_of_mem _ hy), show wl [swp x] = jn (swp x) (0, 0) from rfl, jn_zero' (by unfold swp; exact hx.1), jn_swp]
    rfl
/-- a down is an up of what is left, turned about -/
theorem seg_trn {ps : List (Int × Int)} {m f l : Nat} (hm : m ≤ ps.length) (hfl : f ≤ l) (hl : l ≤ ps.length - m) : seg ps (ps.length - l) (ps.length - f) = trn (seg (trn (ps.drop m)) f l) := by
  have hlen : (trn (ps.drop m)).length = ps.length - m := by rw [trn_len, List.length_drop]
  apply List.ext_getElem?
  intro k
  by_cases hk : k < l - f
  · have h1 : (seg (trn (ps.drop m)) f l).length = l - f := seg_len (by rw [hlen]; exact hl)
    rw [seg_get (by omega), trn_get (by rw [h1]; exact hk), List.getD_eq_getElem?_getD, h1, seg_get (by omega), trn_get (by rw [List.length_drop]; omega), List.length_drop]
    rw [List.getD_eq_getElem?_getD, List.getElem?_drop, show m + (ps.length - m - 1 - (f + (l - f - 1 - k))) = ps.length - l + k by omega, List.getElem?_eq_getElem (show ps.length - l + k < ps.length by omega)]
    rfl
  · rw [List.getElem?_eq_none (by rw [seg_len (by omega)]; omega), List.getElem?_eq_none (by rw [trn_len, seg_len (by rw [hlen]; exact hl)]; omega)]
/-! ### list.extend of a tuple -/
theorem ext_tup (l b : Addr) (its its2 : Array Value) (n n2 : Nat) (dd : Option Addr) (sl : Array (Option Value)) (h0 : ¬(!its.isEmpty && Builtin.List.listTooLong (its.size + its2.size)) = true) (h1 : its.size ≤ sizeLine) (h2 : its.size + its2.size ≤ sizeLine + 1) :
    Meets (Builtin.«list.extend» ⟨[.ref l, .ref b], []⟩) (fun _ R s => s.heap.get? l = some { cls := .type "list", dict := none, data := .seq its n, slots := #[] } ∧ s.heap.get? b = some { cls := .type "tuple", dict := dd, data := .seq its2 n2, slots := sl } ∧
      R (.ok (.ret Value.none)) { s with heap := s.heap.update l (Obj.mapSeq fun x => x ++ its2), toks := s.toks }) :=
  .of_wp fun prog w A R s h => by
    obtain ⟨hp, g, d, tk, os⟩ := s
    obtain ⟨hl, hb, h⟩ := h
    have f1 := AutoSeq1.idx_int
    have f2 := AutoSeq1.sub_tuple_tuple
    have f3 := AutoSeq1.sub_list_list
    have f4 := AutoSeq1.sub_tuple_list
    have f5 := AutoSeq1.sub_list_tuple
    have fits : (its ++ its2).size ≤ sizeLine + 1 := by
      rw [Array.size_append]
      exact h2
    wp_walk using (wpAny_updateSeq hl rfl (hz := h1) (_hz' := fits)), wpAny_loadPart' hl, wpAny_loadPart' hb
    exact ⟨_, rfl, h⟩
def rExtT : V → List V → Hp → VK → Prop := fun x vs H Q => ∃ l b xs zs, x = .ref l ∧ vs = [.ref b] ∧ H l = some (.lst xs) ∧ H b = some (.tup zs) ∧ xs.length + zs.length ≤ sizeLine ∧ Q .non (upd H l (.lst (xs ++ zs)))
theorem mt_extendT {X : Cx} : MtM X "list.extend" rExtT := by
  intro pins s σ H x vs v us Q I rx rv h
  obtain ⟨l, b, xs, zs, rfl, rfl, hH, hB, hz, q⟩ := h
  cases rx
  obtain ⟨u, rfl, ru⟩ := rv.one
  cases ru
  obtain ⟨z, its, n, r, hl, e⟩ := I.lstM hH
  obtain ⟨its2, r2, ⟨⟨cls, dd, data, sl⟩, ho, hc, n2, hd⟩, hs⟩ := I.tuple (.inl (.inl hB))
  simp only at hc hd
  subst hc hd
  have l2 : its2.length = zs.length := r2.length.symm
  have fits : its.toArray.size + its2.toArray.size ≤ sizeLine := by rw [List.size_toArray, List.size_toArray]; omega
  have short : ¬ (!its.toArray.isEmpty && Builtin.List.listTooLong (its.toArray.size + its2.toArray.size)) = true := by
    rw [notLongL fits, Bool.and_false]
    exact fun y => nomatch y
  refine call_meets F.slot_list_extend ⟨_, e, rfl⟩ F.entry_list_extend (F.args_list_extend_2 _ _) (ext_tup l b its.toArray its2.toArray n n2 dd sl short (by rw [List.size_toArray]; omega) (by omega)) ⟨e, ho, ?_⟩
  refine ⟨.non, _, I.lset (its' := its ++ its2) hH e (by simp) (r.append r2) ?_, rfl, q⟩
  rw [List.length_append]
  omega
/-! ### what is asked of a cut -/
theorem Ch.le : ∀ {l : List (Int × Int)} {a b : Int}, Ch a l b → a ≤ b ∧ ∀ x ∈ l, x.2 ≤ b
  | [], a, b, h => ⟨by have e : a = b := h; omega, fun x hx => by cases hx⟩
  | y :: l, a, b, h => by
    obtain ⟨h1, h2, h3⟩ := h
    have ih := Ch.le h3
    refine ⟨by omega, fun x hx => ?_⟩
    rcases List.mem_cons.mp hx with z | z
    · rw [z]; exact ih.1
    · exact ih.2 x z
theorem IsUps.chU {ps : List (Int × Int)} : ∀ {l : List (Nat × Nat)} {s : Nat}, IsUps ps s l → Ch (s : Int) (l.map cst) ((lastE s l : Nat) : Int)
  | [], s, _ => rfl
  | _ :: l, s, .cons (e := e) g1 g2 g3 => by
    have ih := IsUps.chU g3
    exact ⟨rfl, by show (s : Int) < (e : Int); omega, ih⟩
theorem IsUps.lt {ps : List (Int × Int)} : ∀ {l : List (Nat × Nat)} {s : Nat}, IsUps ps s l → ∀ x ∈ l, x.1 < x.2
  | [], _, _, x, hx => by cases hx
  | _ :: _, _, .cons g1 g2 g3, x, hx => by
    rcases List.mem_cons.mp hx with z | z
    · rw [z]; exact g2
    · exact IsUps.lt g3 x z
theorem Ris.get : ∀ {l : List Int}, Ris l → ∀ (k : Nat) (x y : Int), l[k]? = some x → l[k + 1]? = some y → x < y
  | [], _, k, x, y, h, _ => by simp at h
  | [_], _, 0, x, y, _, h => by simp at h
  | [_], _, k + 1, x, y, h, _ => by simp at h
  | a :: b :: l, h, 0, x, y, h1, h2 => by
    have e1 : a = x := Option.some.inj h1
    have e2 : b = y := Option.some.inj h2
    have := h.1
    omega
  | a :: b :: l, h, k + 1, x, y, h1, h2 => Ris.get (l := b :: l) h.2 k x y h1 h2
/-- the numbers of the stretches as pairs -/
def flatW (ps : List (Int × Int)) : List (Nat × Nat) → List Int
  | [] => []
  | x :: l => (wl (seg ps x.1 x.2)).1 :: (wl (seg ps x.1 x.2)).2 :: flatW ps l
theorem flatW_append (ps : List (Int × Int)) : ∀ a b : List (Nat × Nat), flatW ps (a ++ b) = flatW ps a ++ flatW ps b
  | [], b => rfl
  | x :: a, b => by
    show _ :: _ :: flatW ps (a ++ b) = _
    rw [flatW_append ps a b]
    rfl
theorem flatW_len (ps : List (Int × Int)) : ∀ a : List (Nat × Nat), (flatW ps a).length = 2 * a.length
  | [] => rfl
  | x :: a => by
    show (flatW ps a).length + 1 + 1 = 2 * (a.length + 1)
    rw [flatW_len ps a]
    omega
theorem flatW_ups {ps : List (Int × Int)} (h : ∀ x ∈ ps, Nn x) : ∀ {l : List (Nat × Nat)}, (∀ x ∈ l, x.1 < x.2 ∧ x.2 ≤ ps.length) → flatW ps l = flat2 ps l
  | [], _ => rfl
  | x :: l, hl => by
    have h0 := hl x (List.mem_cons_self ..)
    show (wl (seg ps x.1 x.2)).1 :: (wl (seg ps x.1 x.2)).2 :: flatW ps l = _
    rw [wl_seg h h0.1 h0.2, flatW_ups h fun y hy => hl y (List.mem_cons_of_mem _ hy)]
    rfl
def dwnN (n : Nat) (l : List (Nat × Nat)) : List (Nat × Nat) := l.reverse.map fun x => (n - x.2, n - x.1)
theorem dwn_cst {n : Nat} {l : List (Nat × Nat)} (h : ∀ x ∈ l, x.1 ≤ n ∧ x.2 ≤ n) : dwn n l = (dwnN n l).map cst := by
  unfold dwn dwnN
  rw [List.map_map]
  apply List.map_congr_left
  intro x hx
  have := h x (List.mem_reverse.mp hx)
  show _ = cst (n - x.2, n - x.1)
  unfold cst
  exact Prod.ext (by dsimp only; omega) (by dsimp only; omega)
theorem flatW_downs {ps : List (Int × Int)} {m : Nat} (h : ∀ x ∈ ps, Nn x) (hm : m ≤ ps.length) : ∀ {l : List (Nat × Nat)}, (∀ x ∈ l, x.1 < x.2 ∧ x.2 ≤ ps.length - m) → (flatW ps (dwnN ps.length l)).reverse = flatW (trn (ps.drop m)) l
  | [], _ => rfl
  | x :: l, hl => by
    have h0 := hl x (List.mem_cons_self ..)
    have ed : dwnN ps.length (x :: l) = dwnN ps.length l ++ [(ps.length - x.2, ps.length - x.1)] := by
      unfold dwnN
      rw [List.reverse_cons, List.map_append]
      rfl
    rw [ed, flatW_append, List.reverse_append, flatW_downs h hm fun y hy => hl y (List.mem_cons_of_mem _ hy)]
    show (wl (seg ps (ps.length - x.2) (ps.length - x.1))).2 :: (wl (seg ps (ps.length - x.2) (ps.length - x.1))).1 :: flatW (trn (ps.drop m)) l = _
    rw [seg_trn hm (Nat.le_of_lt h0.1) h0.2, wl_trn (seg_nn (trn_nn (nn_drop h m)) _ _)]
    rfl
/-- data made of whole numbers and tuples is the same as itself -/
theorem hts_max {ps : List (Int × Int)} {L : List (Nat × Nat)} (up : IsUps ps 0 L) {M : Int} (h1 : M ∈ hts ps) (h2 : ∀ y ∈ hts ps, y ≤ M) : M = Tl ps (lastE 0 L) := by
  have hle := (up.le (Nat.zero_le _)).2
  have g1 : Tl ps (lastE 0 L) ≤ M := h2 _ (List.mem_of_getElem? (hts_get hle))
  obtain ⟨k, hk⟩ := List.getElem?_of_mem h1
  have hkl : k ≤ ps.length := by
    have := (List.getElem?_eq_some_iff.mp hk).1
    rw [hts_len] at this
    omega
  rw [hts_get hkl] at hk
  have e := Option.some.inj hk
  have g2 := up.highest k (Nat.zero_le _) hkl
  unfold Tl at *
  omega
/-! ### the text -/
def top (i : Nat) : Stmt := PySem.Challenge.pw_stintpurse_k12_whole_cuts_as_pairs.main.body.getD i (.Pass ⟨0, 0, 0, 0⟩)
abbrev s_law_take : Stmt := top 17
theorem sc_law_take : FnScope ["_law_stream_here", "_law_below", "_law_cells", "_law_begun", "_law_left", "_law_blend"] ["_law_stream_here", "_law_below"] (defScope s_law_take) := ⟨rfl, rfl, rfl, by decide +kernel, rfl, by decide +kernel, by decide +kernel⟩
abbrev s_law_number : Stmt := top 18
theorem sc_law_number : FnScope ["_law_stream_here", "_law_way"] ["_law_stream_here"] (defScope s_law_number) := ⟨rfl, rfl, rfl, by decide +kernel, rfl, by decide +kernel, by decide +kernel⟩
abbrev s_law_pair : Stmt := top 19
theorem sc_law_pair : FnScope ["_law_stream_here", "_law_need"] ["_law_stream_here"] (defScope s_law_pair) := ⟨rfl, rfl, rfl, by decide +kernel, rfl, by decide +kernel, by decide +kernel⟩
abbrev s_law_row : Stmt := top 20
theorem sc_law_row : FnScope ["_law_stream_here", "_law_most", "_law_found", "_law_k"] ["_law_stream_here", "_law_most"] (defScope s_law_row) := ⟨rfl, rfl, rfl, by decide +kernel, rfl, by decide +kernel, by decide +kernel⟩
abbrev s_law_stream : Stmt := top 16
theorem sc_law_stream : FnScope ["_law_script", "_law_cell"] ["_law_script"] (defScope s_law_stream) := ⟨rfl, rfl, rfl, by decide +kernel, rfl, by decide +kernel, by decide +kernel⟩
abbrev s_turned_row : Stmt := top 4
theorem sc_turned_row : FnScope ["row", "need", "leave"] ["row"] (defScope s_turned_row) := ⟨rfl, rfl, rfl, by decide +kernel, rfl, by decide +kernel, by decide +kernel⟩
abbrev s_heights : Stmt := top 5
theorem sc_heights : FnScope ["row", "height", "told", "need", "leave"] ["row"] (defScope s_heights) := ⟨rfl, rfl, rfl, by decide +kernel, rfl, by decide +kernel, by decide +kernel⟩
abbrev s_dips : Stmt := top 6
theorem sc_dips : FnScope ["row", "height", "pair"] ["row"] (defScope s_dips) := ⟨rfl, rfl, rfl, by decide +kernel, rfl, by decide +kernel, by decide +kernel⟩
abbrev s_first_above : Stmt := top 8
theorem sc_first_above : FnScope ["tall", "start", "at"] ["tall", "start"] (defScope s_first_above) := ⟨rfl, rfl, rfl, by decide +kernel, rfl, by decide +kernel, by decide +kernel⟩
abbrev s_up_end : Stmt := top 9
theorem sc_up_end : FnScope ["tall", "deep", "start", "above", "floor", "best", "at"] ["tall", "deep", "start"] (defScope s_up_end) := ⟨rfl, rfl, rfl, by decide +kernel, rfl, by decide +kernel, by decide +kernel⟩
abbrev s_ups_of : Stmt := top 10
theorem sc_ups_of : FnScope ["row", "tall", "deep", "ups", "start", "end"] ["row"] (defScope s_ups_of) := ⟨rfl, rfl, rfl, by decide +kernel, rfl, by decide +kernel, by decide +kernel⟩
abbrev s_middle_end : Stmt := top 11
theorem sc_middle_end : FnScope ["row", "start", "tall", "end", "at"] ["row", "start"] (defScope s_middle_end) := ⟨rfl, rfl, rfl, by decide +kernel, rfl, by decide +kernel, by decide +kernel⟩
abbrev s_downs_of : Stmt := top 12
theorem sc_downs_of : FnScope ["row", "start", "many", "turned", "first", "last"] ["row", "start"] (defScope s_downs_of) := ⟨rfl, rfl, rfl, by decide +kernel, rfl, by decide +kernel, by decide +kernel⟩
abbrev s_cut : Stmt := top 13
theorem sc_cut : FnScope ["row", "ups", "start", "end"] ["row"] (defScope s_cut) := ⟨rfl, rfl, rfl, by decide +kernel, rfl, by decide +kernel, by decide +kernel⟩
abbrev s_is_whole : Stmt := top 1
theorem sc_is_whole : FnScope ["thing"] ["thing"] (defScope s_is_whole) := ⟨rfl, rfl, rfl, by decide +kernel, rfl, by decide +kernel, by decide +kernel⟩
abbrev s_same : Stmt := top 2
theorem sc_same : FnScope ["told", "thing", "part", "other"] ["told", "thing"] (defScope s_same) := ⟨rfl, rfl, rfl, by decide +kernel, rfl, by decide +kernel, by decide +kernel⟩
abbrev s_stretches_hold : Stmt := top 14
theorem sc_stretches_hold : FnScope ["row", "thing"] ["row", "thing"] (defScope s_stretches_hold) := ⟨rfl, rfl, rfl, by decide +kernel, rfl, by decide +kernel, by decide +kernel⟩
abbrev s_law_in_one : Stmt := top 21
theorem sc_law_in_one : FnScope ["_law_row_here", "_law_tall", "_law_deepest", "_law_need", "_law_leave"] ["_law_row_here"] (defScope s_law_in_one) := ⟨rfl, rfl, rfl, by decide +kernel, rfl, by decide +kernel, by decide +kernel⟩
abbrev s_law_ends : Stmt := top 22
theorem sc_law_ends : FnScope ["_law_row_here", "_law_stretches", "_law_at", "_law_first", "_law_last"] ["_law_row_here", "_law_stretches", "_law_at"] (defScope s_law_ends) := ⟨rfl, rfl, rfl, by decide +kernel, rfl, by decide +kernel, by decide +kernel⟩
abbrev s_law_rise : Stmt := top 23
theorem sc_law_rise : FnScope ["_law_numbers", "_law_k"] ["_law_numbers"] (defScope s_law_rise) := ⟨rfl, rfl, rfl, by decide +kernel, rfl, by decide +kernel, by decide +kernel⟩
abbrev s_law_flat : Stmt := top 24
theorem sc_law_flat : FnScope ["_law_row_here", "_law_stretches", "_law_found", "_law_first", "_law_last"] ["_law_row_here", "_law_stretches"] (defScope s_law_flat) := ⟨rfl, rfl, rfl, by decide +kernel, rfl, by decide +kernel, by decide +kernel⟩
abbrev s_law_right : Stmt := top 25
theorem sc_law_right : FnScope ["_law_row_here", "_law_told", "_law_ups", "_law_middle", "_law_downs", "_law_need", "_law_leave", "_law_high", "_law_limit", "_law_one"] ["_law_row_here", "_law_told"] (defScope s_law_right) := ⟨rfl, rfl, rfl, by decide +kernel, rfl, by decide +kernel, by decide +kernel⟩
abbrev s_law : Stmt := top 26
theorem sc_law : FnScope ["_law_script", "_law_stream_here", "_law_turn", "_law_row_here", "_law_told", "_law_bent"] ["_law_script"] (defScope s_law) := ⟨rfl, rfl, rfl, by decide +kernel, rfl, by decide +kernel, by decide +kernel⟩
section
variable {P : Program} {w : World} {K : PySem.W.Frag} {mg : Str → Option Value} {base : Heap}

def spTake : Sp := fun vs H Q _ => ∃ (s c : Addr) (n : Int), vs = [.ref s, .int n] ∧ Strm c H s ∧ 0 < n ∧ n < 1073741824 ∧
  ∀ H' r, But s H H' → Strm c H' s → 0 ≤ r → r < n → Q (.int r) H'
theorem ok_take {f : Addr} {fd : FuncData} (F : FnP K "_law_take" s_law_take f fd) (B : Bi mg) : FnOk P w K mg base CX0 1 f fd ["_law_stream_here", "_law_below"] spTake := by
  refine F.ok sc_law_take (fun vs H Q E h => ?_) (fun cdv A outer s H vs Q E hr h => ?_)
  · obtain ⟨s, c, n, rfl, _⟩ := h
    rfl
  obtain ⟨s, c, n, rfl, hS, hn0, hn1, q⟩ := h
  obtain ⟨cs, b, l, bl, hs, hc, hcs, hlen, hb, hl, hbl, hbl2⟩ := hS.ex
  have ncs : c ≠ s := strm_ne hs hc
  refine ⟨_, PSs.nox (pss_cons (ps_asg (pv 0) (pg_unl rfl (pgs_cons (pg_name (i := 2) sc_law_take.nd rfl (.inl rfl)) (pgs_cons (pg_name (i := 3) sc_law_take.nd rfl (.inl rfl)) (pgs_cons (pg_name (i := 4) sc_law_take.nd rfl (.inl rfl)) (pgs_cons (pg_name (i := 5) sc_law_take.nd rfl (.inl rfl)) pgs_nil))))))
    (Evl.pss_cut (ps_if (PW.pt (pw_and (pt_cmpR op_eq (pv 4) pe_int (nomark _)) (pw_and1 (pt_cmpR op_lt (pv 3) (pe_callB (len_ (K := K) rfl) (by rfl) B.len PySem.boot_len (pa_cons (pv 2) pa_nil)) (nomark _))))) (pss_cons (ps_asg (pe_op op_add (pv 3) pe_int) (pg_sub (pv 0) pe_int set_list))
    (pss_one (ps_if (pt_cmpR op_ge (pe_ix (ixL_ (K := K) rfl) (pv 2) (pv 3) (fun _ _ => rfl)) (pe_op op_pow pe_int pe_int) (nomark _)) (pss_one (ps_set (i := 4) sc_law_take.nd rfl (.inl rfl) (pe_ix (ixL_ (K := K) rfl) (pv 2) (pv 3) (fun _ _ => rfl)))) (pss_one (ps_set (i := 5) sc_law_take.nd rfl (.inl rfl) (pe_op op_add (pv 5) (pe_op op_mod (pe_ix (ixL_ (K := K) rfl) (pv 2) (pv 3) (fun _ _ => rfl)) pe_int))))))) pss_nil)
    (pss_cons (ps_if (pt_cmpR op_gt (pv 4) pe_int (nomark _)) (pss_cons (ps_asg (pe_op op_fdiv (pv 4) (pv 1)) (pg_sub (pv 0) pe_int set_list))
    (pss_one (ps_ret (pe_op op_mod (pv 4) (pv 1))))) pss_nil)
    (pss_cons (ps_set (i := 5) sc_law_take.nd rfl (.inl rfl) (pe_op op_mod (pe_op op_add (pe_op op_mul (pv 5) pe_int) pe_int) pe_int))
    (pss_cons (ps_asg (pv 5) (pg_sub (pv 0) pe_int set_list))
    (pss_one (ps_ret (pe_op op_mod (pe_op op_fdiv (pe_op op_mod (pe_op op_mul (pv 5) (pv 5)) pe_int) pe_int) (pv 1))))))))), ?_⟩
  refine ⟨.ref s, rfl, s, _, rfl, .inl (.inl hs), rfl, _, _, rfl, _, _, rfl, _, _, rfl, _, _, rfl, rfl, ?_⟩
  refine ⟨fun σ' H' => ∃ (b' l' bl' : Int), σ' = [some (.ref s), some (.int n), some (.ref c), some (.int b), some (.int l'), some (.int bl')] ∧ H' s = some (.lst [.ref c, .int b', .int l, .int bl]) ∧ But s H H' ∧ 0 ≤ b' ∧ 0 ≤ l' ∧ 0 ≤ bl' ∧ bl' < 4294967296 * 2 ∧ (l' = 0 → l = 0), ?_, ?_⟩
  · refine ⟨_, rfl, rfl, _, rfl, ite2 (fun e => ?_) (fun e => ?_)⟩
    · refine ⟨_, rfl, _, rfl, c, _, rfl, .inl (.inl (.inl hc)), _, _, rfl, rfl, _, rfl, ite2 (fun e2 => ?_) (fun e2 => ?_)⟩
      · have l0 : l = 0 := V.int.inj (of_decide_eq_true e)
        have hb2 : b < ((cs.map V.int).length : Int) := of_decide_eq_true e2
        rw [List.length_map] at hb2
        have hbn : b = (b.toNat : Int) := (Int.toNat_of_nonneg hb).symm
        have hbl3 : b.toNat < cs.length := by omega
        have gc : (cs.map V.int)[b.toNat]? = some (.int cs[b.toNat]) := by
          rw [List.getElem?_map, List.getElem?_eq_getElem hbl3]; rfl
        have g0 : 0 ≤ cs[b.toNat] := hcs _ (List.getElem_mem hbl3)
        refine ⟨_, rfl, b, 1, rfl, rfl, _, rfl, s, _, _, 1, rfl, rfl, hs, rfl, ?_⟩
        have hs1 : upd H s (.lst [.ref c, .int (b + 1), .int l, .int bl]) s = some (.lst [.ref c, .int (b + 1), .int l, .int bl]) := upd_same
        have hc1 : upd H s (.lst [.ref c, .int (b + 1), .int l, .int bl]) c = some (.lst (cs.map V.int)) := by
          rw [upd_ne ncs]; exact hc
        have ga : atI (cs.map V.int) b = some (.int cs[b.toNat]) := at_of hbn gc
        refine ⟨_, rfl, _, rfl, c, _, b, _, rfl, rfl, .inl (.inl hc1), ga, 10, 18, rfl, rfl, ⟨by decide, by decide, by decide⟩, _, _, rfl, rfl, _, rfl, ite2 (fun e3 => ?_) (fun e3 => ?_)⟩
        · have h18 : (10 ^ (18 : Int).toNat : Int) ≤ cs[b.toNat] := of_decide_eq_true e3
          refine ⟨_, rfl, _, rfl, c, _, b, _, rfl, rfl, .inl (.inl hc1), ga, ?_⟩
          refine ⟨b + 1, cs[b.toNat], bl, rfl, hs1, But.put, by omega, g0, hbl, by omega, fun z => ?_⟩
          exact l0
        · refine ⟨_, rfl, _, rfl, _, rfl, c, _, b, _, rfl, rfl, .inl (.inl hc1), ga, _, 2147483629, rfl, rfl, (show (0 : Int) < 2147483629 by decide), _, _, rfl, rfl, ?_⟩
          refine ⟨b + 1, l, bl + cs[b.toNat] % 2147483629, rfl, hs1, But.put, by omega, hl, by omega, by omega, fun z => z⟩
      · exact ⟨b, l, bl, rfl, hs, But.refl _ _, hb, hl, hbl, by omega, fun z => z⟩
    · exact ⟨b, l, bl, rfl, hs, But.refl _ _, hb, hl, hbl, by omega, fun z => z⟩
  · rintro σ' H1 ⟨b', l', bl', rfl, hs1, hB, hb', hl', hbl', hbl2', hl0⟩
    have hc1 : H1 c = some (.lst (cs.map V.int)) := hB c _ ncs hc
    refine ⟨_, rfl, l', 0, rfl, rfl, _, rfl, ite2 (fun e => ?_) (fun e => ?_)⟩
    · have l1 : 0 < l' := of_decide_eq_true e
      refine ⟨_, rfl, _, rfl, l', n, rfl, rfl, ⟨hn0, hn1⟩, _, rfl, s, _, _, 2, rfl, rfl, hs1, rfl, ?_⟩
      refine ⟨_, rfl, _, rfl, l', n, rfl, rfl, hn0, ?_⟩
      refine q _ _ (hB.trans But.put) ⟨cs, b', l' / n, bl, upd_same, ?_, hcs, hlen, hb', Int.ediv_nonneg hl' (Int.le_of_lt hn0), hbl, hbl2⟩ (Int.emod_nonneg _ (Int.ne_of_gt hn0)) (Int.emod_lt_of_pos _ hn0)
      rw [upd_ne ncs]; exact hc1
    · refine ⟨_, rfl, bl', 48271, rfl, rfl, .inr ⟨by decide, by decide⟩, _, 30011, rfl, rfl, _, 2147483647, rfl, rfl, (show (0 : Int) < 2147483647 by decide), ?_⟩
      dsimp only
      have z0 : 0 ≤ (bl' * 48271 + 30011) % 2147483647 := Int.emod_nonneg _ (by decide)
      have z1 : (bl' * 48271 + 30011) % 2147483647 < 2147483647 := Int.emod_lt_of_pos _ (by decide)
      generalize (bl' * 48271 + 30011) % 2147483647 = z at z0 z1 ⊢
      refine ⟨_, rfl, _, rfl, s, _, _, 3, rfl, rfl, hs1, rfl, ?_⟩
      refine ⟨_, rfl, _, rfl, z, z, rfl, rfl, .inl ⟨by omega, by omega⟩, _, 2147483629, rfl, rfl, (show (0 : Int) < 2147483629 by decide), _, 16, rfl, rfl, ⟨by decide, by decide⟩, _, rfl, _, n, rfl, rfl, hn0, ?_⟩
      refine q _ _ (hB.trans But.put) ⟨cs, b', l, z, upd_same, ?_, hcs, hlen, hb', hl, z0, by omega⟩ (Int.emod_nonneg _ (Int.ne_of_gt hn0)) (Int.emod_lt_of_pos _ hn0)
      rw [upd_ne ncs]; exact hc1

def spNumber : Sp := fun vs H Q _ => ∃ (s c : Addr), vs = [.ref s] ∧ Strm c H s ∧
  ∀ H' r, But s H H' → Strm c H' s → 0 ≤ r → r < 10000000000000000000000000000000000000000 → Q (.int r) H'
theorem ok_number {f : Addr} {fd : FuncData} (F : FnP K "_law_number" s_law_number f fd) (c_law_take : Cl P w K mg base 1 "_law_take" ["_law_stream_here", "_law_below"] spTake) : FnOk P w K mg base CX0 2 f fd ["_law_stream_here"] spNumber := by
  refine F.ok sc_law_number (fun vs H Q E h => ?_) (fun cdv A outer s H vs Q E hr h => ?_)
  · obtain ⟨s, c, rfl, _⟩ := h
    rfl
  obtain ⟨s, c, rfl, hS, q⟩ := h
  refine ⟨_, PSs.nox (pss_cons (ps_set (i := 1) sc_law_number.nd rfl (.inl rfl) (pe_cl c_law_take hr (by rfl) (pa_cons (pv 0) (pa_cons pe_int pa_nil))))
    (pss_cons (ps_if (pt_cmpR op_eq (pv 1) pe_int (nomark _)) (pss_one (ps_ret pe_int)) pss_nil)
    (pss_cons (ps_if (pt_cmpR op_lt (pv 1) pe_int (nomark _)) (pss_one (ps_ret (pe_cl c_law_take hr (by rfl) (pa_cons (pv 0) (pa_cons pe_int pa_nil))))) pss_nil)
    (pss_cons (ps_if (pt_cmpR op_lt (pv 1) pe_int (nomark _)) (pss_one (ps_ret (pe_cl c_law_take hr (by rfl) (pa_cons (pv 0) (pa_cons pe_int pa_nil))))) pss_nil)
    (pss_one (ps_ret (pe_op op_add (pe_ix (ixL_ (K := K) rfl) (pe_lst (pa_cons (pe_op op_pow pe_int pe_int) (pa_cons (pe_op op_pow pe_int pe_int) (pa_cons (pe_op op_pow pe_int pe_int) (pa_cons (pe_op op_pow pe_int pe_int) pa_nil))))) (pe_cl c_law_take hr (by rfl) (pa_cons (pv 0) (pa_cons pe_int pa_nil))) (fun _ _ => rfl)) (pe_cl c_law_take hr (by rfl) (pa_cons (pv 0) (pa_cons pe_int pa_nil)))))))))), ?_⟩
  refine ⟨_, rfl, s, c, 16, rfl, hS, by decide, by decide, fun H1 r B1 S1 r0 r1 => ?_⟩
  refine ⟨_, rfl, rfl, _, rfl, ite2 (fun e => ?_) (fun e => ?_)⟩
  · exact q _ _ B1 S1 (by decide) (by decide)
  refine ⟨_, rfl, _, _, rfl, rfl, _, rfl, ite2 (fun e => ?_) (fun e => ?_)⟩
  · exact ⟨_, rfl, s, c, 10, rfl, S1, by decide, by decide, fun H2 r B2 S2 r0 r1 => q _ _ (B1.trans B2) S2 r0 (by omega)⟩
  refine ⟨_, rfl, _, _, rfl, rfl, _, rfl, ite2 (fun e => ?_) (fun e => ?_)⟩
  · exact ⟨_, rfl, s, c, 41, rfl, S1, by decide, by decide, fun H2 r B2 S2 r0 r1 => q _ _ (B1.trans B2) S2 r0 (by omega)⟩
  refine ⟨10, 9, rfl, rfl, ⟨by decide, by decide, by decide⟩, 10, 12, rfl, rfl, ⟨by decide, by decide, by decide⟩, 10, 18, rfl, rfl, ⟨by decide, by decide, by decide⟩, 10, 39, rfl, rfl, ⟨by decide, by decide, by decide⟩, by decide, fun p np => ?_⟩
  have S2 : Strm c (upd H1 p _) s := S1.up (Same.new (o := .lst [V.int (10 ^ (9 : Int).toNat), .int (10 ^ (12 : Int).toNat), .int (10 ^ (18 : Int).toNat), .int (10 ^ (39 : Int).toNat)]) np)
  refine ⟨_, rfl, s, c, 4, rfl, S2, by decide, by decide, fun H3 r B3 S3 r0 r1 => ?_⟩
  have np3 : p ≠ s := by
    obtain ⟨xs, hx⟩ := S1.lst
    exact (ne_of_none hx np).symm
  have hx : ∃ x : Int, atI [V.int (10 ^ (9 : Int).toNat), .int (10 ^ (12 : Int).toNat), .int (10 ^ (18 : Int).toNat), .int (10 ^ (39 : Int).toNat)] r = some (.int x) ∧ 0 ≤ x ∧ x ≤ 1000000000000000000000000000000000000000 := by
    obtain rfl | rfl | rfl | rfl : r = 0 ∨ r = 1 ∨ r = 2 ∨ r = 3 := by omega
    · exact ⟨_, rfl, by decide, by decide⟩
    · exact ⟨_, rfl, by decide, by decide⟩
    · exact ⟨_, rfl, by decide, by decide⟩
    · exact ⟨_, rfl, by decide, by decide⟩
  obtain ⟨x, hx, x0, x1⟩ := hx
  refine ⟨p, _, r, .int x, rfl, rfl, .inl (.inl (B3 p _ np3 upd_same)), hx, ?_⟩
  refine ⟨_, rfl, s, c, 3, rfl, S3, by decide, by decide, fun H4 r4 B4 S4 r40 r41 => ?_⟩
  exact ⟨x, r4, rfl, rfl, q _ _ (B1.trans ((But.new np).trans (B3.trans B4))) S4 (by omega) (by omega)⟩

def spPair : Sp := fun vs H Q _ => ∃ (s c : Addr), vs = [.ref s] ∧ Strm c H s ∧
  ∀ H' v x, But s H H' → Strm c H' s → At H' (dP x) v → 0 ≤ x.1 → x.1 < 10000000000000000000000000000000000000000 → 0 ≤ x.2 → x.2 < 10000000000000000000000000000000000000000 → Q v H'
theorem ok_pair {f : Addr} {fd : FuncData} (F : FnP K "_law_pair" s_law_pair f fd) (B : Bi mg) (c_law_take : Cl P w K mg base 1 "_law_take" ["_law_stream_here", "_law_below"] spTake) (c_law_number : Cl P w K mg base 2 "_law_number" ["_law_stream_here"] spNumber) : FnOk P w K mg base CX0 3 f fd ["_law_stream_here"] spPair := by
  refine F.ok sc_law_pair (fun vs H Q E h => ?_) (fun cdv A outer s H vs Q E hr h => ?_)
  · obtain ⟨s, c, rfl, _⟩ := h
    rfl
  obtain ⟨s, c, rfl, hS, q⟩ := h
  refine ⟨_, PSs.nox (pss_cons (ps_if (pt_cmpR op_eq (pe_cl c_law_take (hr.mono (by decide)) (by rfl) (pa_cons (pv 0) (pa_cons pe_int pa_nil))) pe_int (nomark _)) (pss_one (ps_ret (pe_tup (pa_cons (pe_cl c_law_number hr (by rfl) (pa_cons (pv 0) pa_nil)) (pa_cons (pe_cl c_law_number hr (by rfl) (pa_cons (pv 0) pa_nil)) pa_nil))))) pss_nil)
    (pss_cons (ps_set (i := 1) sc_law_pair.nd rfl (.inl rfl) (pe_cl c_law_take (hr.mono (by decide)) (by rfl) (pa_cons (pv 0) (pa_cons pe_int pa_nil))))
    (pss_one (ps_ret (pe_tup (pa_cons (pv 1) (pa_cons (pe_callB (call_max2 rfl) (by rfl) B.max (by decide +kernel) (pa_cons pe_int (pa_cons (pe_op op_sub (pe_op op_add (pv 1) (pe_cl c_law_take (hr.mono (by decide)) (by rfl) (pa_cons (pv 0) (pa_cons pe_int pa_nil)))) pe_int) pa_nil))) pa_nil))))))), ?_⟩
  refine ⟨_, rfl, s, c, 4, rfl, hS, by decide, by decide, fun H1 r B1 S1 r0 r1 => ?_⟩
  refine ⟨rfl, _, rfl, ite2 (fun e => ?_) (fun e => ?_)⟩
  · refine ⟨_, rfl, s, c, rfl, S1, fun H2 x B2 S2 x0 x1 => ?_⟩
    refine ⟨_, rfl, s, c, rfl, S2, fun H3 y B3 S3 y0 y1 => ?_⟩
    refine ⟨sz2, fun p np => ?_⟩
    exact q _ _ (x, y) (B1.trans (B2.trans (B3.trans (But.new np)))) (S3.up (Same.new np)) (At.mkPair upd_same) x0 x1 y0 y1
  · refine ⟨_, rfl, s, c, 12, rfl, S1, by decide, by decide, fun H2 x B2 S2 x0 x1 => ?_⟩
    refine ⟨_, rfl, _, rfl, _, rfl, s, c, 9, rfl, S2, by decide, by decide, fun H3 y B3 S3 y0 y1 => ?_⟩
    refine ⟨x, y, rfl, rfl, _, 4, rfl, rfl, 0, _, rfl, sz2, fun p np => ?_⟩
    refine q _ _ (x, _) (B1.trans (B2.trans (B3.trans (But.new np)))) (S3.up (Same.new np)) (At.mkPair upd_same) x0 (by omega) ?_ ?_
    · show (0 : Int) ≤ if x + y - 4 > 0 then x + y - 4 else 0
      split <;> omega
    · show (if x + y - 4 > 0 then x + y - 4 else 0) < 10000000000000000000000000000000000000000
      split <;> omega

def spRow : Sp := fun vs H Q _ => ∃ (s c : Addr) (n : Int), vs = [.ref s, .int n] ∧ Strm c H s ∧ 0 ≤ n ∧ n ≤ 1000 ∧
  ∀ H' v ps, But s H H' → Strm c H' s → At H' (dR ps) v → (∀ x ∈ ps, Bd x) → (ps.length : Int) ≤ n → Q v H'
theorem ok_row {f : Addr} {fd : FuncData} (F : FnP K "_law_row" s_law_row f fd) (B : Bi mg) (c_law_take : Cl P w K mg base 1 "_law_take" ["_law_stream_here", "_law_below"] spTake) (c_law_pair : Cl P w K mg base 3 "_law_pair" ["_law_stream_here"] spPair) : FnOk P w K mg base CX0 4 f fd ["_law_stream_here", "_law_most"] spRow := by
  refine F.ok sc_law_row (fun vs H Q E h => ?_) (fun cdv A outer s H vs Q E hr h => ?_)
  · obtain ⟨s, c, n, rfl, _⟩ := h
    rfl
  obtain ⟨s, c, n, rfl, hS, hn0, hn1, q⟩ := h
  refine ⟨_, PSs.nox (pss_cons (ps_set (i := 2) sc_law_row.nd rfl (.inl rfl) (pe_lst pa_nil))
    (pss_cons (ps_for PassesOwn.never rfl (pi_range1 (by rfl) B.range (pa_cons (pe_cl c_law_take (hr.mono (by decide)) (by rfl) (pa_cons (pv 0) (pa_cons (pe_op op_add (pv 1) pe_int) pa_nil))) pa_nil)) (pg_name (i := 3) sc_law_row.nd rfl (.inl rfl))
      (pss_cons (ps_expr (pe_bm PySem.F.plainAttrs_list PySem.F.slot_list_append PySem.F.type_list_append mt_append (pv 2) (pa_cons (pe_cl c_law_pair hr (by rfl) (pa_cons (pv 0) pa_nil)) pa_nil)))
    (pss_one (ps_if (pt_cmpR op_eq (pe_cl c_law_take (hr.mono (by decide)) (by rfl) (pa_cons (pv 0) (pa_cons pe_int pa_nil))) pe_int (nomark _)) (pss_one (ps_asg (pe_ix (ixL_ (K := K) rfl) (pv 2) (pe_cl c_law_take (hr.mono (by decide)) (by rfl) (pa_cons (pv 0) (pa_cons (pe_op op_add (pv 3) pe_int) pa_nil))) (fun _ _ => rfl)) (pg_sub (pv 2) (pv 3) set_list))) pss_nil))))
    (pss_one (ps_ret (pe_callTy (tuple_ (K := K) rfl) (by rfl) B.tuple (by decide +kernel) (pa_cons (pv 2) pa_nil)))))), ?_⟩
  refine ⟨Nat.zero_le _, fun o no => ?_⟩
  obtain ⟨nos, noc⟩ := hS.new no
  refine ⟨_, rfl, _, rfl, n, 1, rfl, rfl, s, c, _, rfl, hS.up (Same.new no), by omega, by omega, fun H1 r B1 S1 r0 r1 => ?_⟩
  refine ⟨r, rfl, by omega, by omega, ?_⟩
  have eo1 : H1 o = some (.lst []) := B1 o _ nos upd_same
  refine for_range (lo := 0) (n := r.toNat) (fun i σ H3 => ∃ (ps : List (Int × Int)) (us : List V) (y : Option V), σ = [some (.ref s), some (.int n), some (.ref o), y] ∧ But s H H3 ∧ Strm c H3 s ∧ H3 o = some (.lst us) ∧ AtL H3 (ps.map dP) us ∧ ps.length = i ∧ ∀ x ∈ ps, Bd x) ?_ ?_ ?_
  · exact ⟨[], [], none, rfl, (But.new no).trans B1, S1, eo1, AtL.nil, rfl, fun x h => by cases h⟩
  · rintro i σ H3 hi ⟨ps, us, y, rfl, B3, S3, eo3, a3, rfl, b3⟩
    have hul : us.length = ps.length := by rw [a3.length, List.length_map]
    have hbig : us.length < sizeLine := szM (by omega)
    refine ⟨_, rfl, .inl ⟨rfl, _, .inl (.inl eo3)⟩, _, rfl, s, c, rfl, S3, fun H4 v x B4 S4 a4 x1 x2 x3 x4 => ?_⟩
    have eo4 : H4 o = some (.lst us) := B4 o _ nos eo3
    refine ⟨o, us, v, rfl, rfl, eo4, hbig, ?_⟩
    have S5 : Strm c (upd H4 o (.lst (us ++ [v]))) s := S4.put nos noc
    have T5 : Tups H4 (upd H4 o (.lst (us ++ [v]))) := fun b xs e => by
      rw [upd_ne (ne_of e eo4 (by intro z; cases z))]; exact e
    have a5 : AtL (upd H4 o (.lst (us ++ [v]))) ((ps ++ [x]).map dP) (us ++ [v]) := by
      rw [List.map_append]
      exact AtL.append (AtL.up T5 _ _ (a3.but S3 B4)) (AtL.cons (At.up T5 _ _ a4) AtL.nil)
    have b5 : ∀ z ∈ ps ++ [x], Bd z := fun z hz => by
      rcases List.mem_append.mp hz with h | h
      · exact b3 z h
      · rw [List.mem_singleton.mp h]; exact ⟨x1, x2, x3, x4⟩
    refine ⟨_, rfl, s, c, 5, rfl, S5, by decide, by decide, fun H6 r6 B6 S6 r60 r61 => ?_⟩
    have eo6 : H6 o = some (.lst (us ++ [v])) := B6 o _ nos upd_same
    have B36 : But s H H6 := ((B3.trans B4).own no).trans B6
    have a6 := a5.but S5 B6
    refine ⟨rfl, _, rfl, ite2 (fun e => ?_) (fun e => ?_)⟩
    · refine ⟨_, rfl, _, rfl, _, rfl, _, 1, rfl, rfl, s, c, _, rfl, S6, by omega, by omega, fun H7 r7 B7 S7 r70 r71 => ?_⟩
      have eo7 : H7 o = some (.lst (us ++ [v])) := B7 o _ nos eo6
      have hr7 : r7 = (r7.toNat : Int) := (Int.toNat_of_nonneg r70).symm
      have hr8 : r7.toNat < (ps ++ [x]).length := by rw [List.length_append, List.length_singleton]; omega
      obtain ⟨u, gu, au⟩ := (a6.but S6 B7).get (i := r7.toNat) (d := dP (ps ++ [x])[r7.toNat]) (by rw [List.getElem?_map, List.getElem?_eq_getElem hr8]; rfl)
      refine ⟨o, _, r7, u, rfl, rfl, .inl (.inl eo7), at_of hr7 gu, _, rfl, _, rfl, o, _, _, ps.length, rfl, rfl, eo7, ixN_of (by omega) (by rw [List.length_append, List.length_singleton]; omega), ?_⟩
      refine ⟨(ps ++ [x]).set ps.length (ps ++ [x])[r7.toNat], _, some (.int (0 + (ps.length : Nat))), rfl, (B36.trans B7).own no, S7.put nos noc, upd_same, ?_, by rw [List.length_set, List.length_append, List.length_singleton], fun z hz => ?_⟩
      · rw [List.map_set]
        exact AtL.up (fun b xs e => by rw [upd_ne (ne_of e eo7 (by intro z; cases z))]; exact e) _ _ ((a6.but S6 B7).set au _)
      · rcases List.mem_or_eq_of_mem_set hz with h | h
        · exact b5 z h
        · rw [h]; exact b5 _ (List.getElem_mem hr8)
    · exact ⟨ps ++ [x], _, some (.int (0 + (ps.length : Nat))), rfl, B36, S6, eo6, a6, by rw [List.length_append, List.length_singleton], b5⟩
  · rintro σ H3 ⟨ps, us, y, rfl, B3, S3, eo3, a3, hl3, b3⟩
    refine ⟨_, rfl, o, us, rfl, .inl ⟨.inl (.inl eo3), fun p np => ?_⟩⟩
    exact q _ _ ps (B3.trans (But.new np)) (S3.up (Same.new np)) (At.tup upd_same (a3.same (Same.new np))) b3 (by omega)

def spStream (K : PySem.W.Frag) : Sp := fun vs H Q _ => ∃ (a : Addr) (ns : List Int), vs = [.ref a] ∧ SqL K H a (ns.map V.int) ∧ ns.length ≤ 63 ∧
  ∀ H' s c, Same H H' → Strm c H' s → Q (.ref s) H'
theorem ok_stream {f : Addr} {fd : FuncData} (F : FnP K "_law_stream" s_law_stream f fd) (B : Bi mg) : FnOk P w K mg base CX0 1 f fd ["_law_script"] (spStream K) := by
  refine F.ok sc_law_stream (fun vs H Q E h => ?_) (fun cdv A outer s H vs Q E hr h => ?_)
  · obtain ⟨a, ns, rfl, _⟩ := h
    rfl
  obtain ⟨a, ns, rfl, hS, hn, q⟩ := h
  refine ⟨_, PSs.nox (pss_one (ps_ret (pe_lst (pa_cons (pe_lc (own := [("_law_cell", 1)]) rfl sc_law_stream.nd (piL_ (K := K) rfl (pe_slice (slL_ (K := K) rfl) (pv 0) po_none (po_some pe_int))) (blkOk_by (N := ["_law_script", "_law_cell"]) (sc := defScope s_law_stream) (by decide +kernel)) (fun _ _ _ _ _ => (pg_name (i := 1) sc_law_stream.nd rfl (.inl rfl))) (fun _ _ _ _ _ => pts_nil) (fun _ _ _ _ _ => (pe_callB call_abs (by rfl) B.abs (by decide +kernel) (pa_cons (pv 1) pa_nil)))) (pa_cons pe_int (pa_cons pe_int (pa_cons (pe_op op_add pe_int (pe_callB (len_ (K := K) rfl) (by rfl) B.len PySem.boot_len (pa_cons (pv 0) pa_nil))) pa_nil))))))), ?_⟩
  refine ⟨_, rfl, 63, rfl, a, ns.map V.int, rfl, hS, fun p np => ?_⟩
  have ecut : cutV (ns.map V.int) none (some 63) = ns.map V.int := by
    unfold cutV
    rw [HT.sIx_none, show HT.sIx (ns.map V.int).length (ns.map V.int).length (some 63) = min 63 (ns.map V.int).length from HT.sIx_nat _ _ 63, List.length_map]
    rw [show min 63 ns.length = ns.length by omega]
    rw [List.drop_zero]
    exact List.take_of_length_le (by rw [List.length_map]; omega)
  rw [ecut]
  have s1 : Same H (upd H p (.lst (ns.map V.int))) := Same.new np
  refine ⟨p, rfl, ⟨_, .inl (.inl upd_same)⟩, fun D hD => ?_⟩
  have npD : p ≠ D := ne_of_none upd_same hD
  refine lc_list (xs := ns.map V.int) (fun i H3 => ∃ ms : List Int, ms.length = i ∧ H3 D = some (.lst (ms.map V.int)) ∧ (∀ x ∈ ms, 0 ≤ x) ∧ Same (upd H p (.lst (ns.map V.int))) H3) ?_ ?_ ?_ ?_
  · exact ⟨[], rfl, upd_same, fun x h => by (cases h), Same.new hD⟩
  · rintro i H3 hi ⟨ms, _, _, _, sm⟩
    exact .inl (.inl (sm p _ upd_same))
  · rintro i x H3 hx ⟨ms, rfl, hm, h0, sm⟩
    rw [List.getElem?_map] at hx
    cases hg : ns[ms.length]? with
    | none => rw [hg] at hx; cases hx
    | some z =>
      rw [hg] at hx
      cases hx
      have hlt : ms.length < ns.length := (List.getElem?_eq_some_iff.mp hg).1
      refine ⟨rfl, ?_⟩
      refine lcYes ?_
      refine ⟨_, rfl, z, rfl, ms.map V.int, hm, ?_, ms ++ [if z < 0 then -z else z], by rw [List.length_append, List.length_singleton], ?_, ?_, ?_⟩
      · rw [List.length_map]; exact szM (by omega)
      · rw [upd_same, List.map_append]; rfl
      · intro y hy
        rcases List.mem_append.mp hy with h | h
        · exact h0 y h
        · rw [List.mem_singleton.mp h]; split <;> omega
      · exact Same.own sm hD
  · rintro H3 ⟨ms, hl, hm, h0, sm⟩
    rw [List.length_map] at hl
    refine ⟨_, rfl, a, _, rfl, .inl (sm.seq (s1.seq hS)), _, _, rfl, rfl, sz4, fun s ns2 => ?_⟩
    refine q _ s D (s1.trans (sm.trans (Same.new ns2))) ⟨ms, 0, 0, 8572 + ((ns.map V.int).length : Int), upd_same, ?_, h0, by omega, by decide, by decide, by omega, by rw [List.length_map]; omega⟩
    rw [upd_ne (ne_of_none hm ns2)]; exact hm

def spTurnedRow : Sp := fun vs H Q _ => ∃ (v : V) (ps : List (Int × Int)), vs = [v] ∧ At H (dR ps) v ∧ ps.length ≤ 100000 ∧ ∀ H' u, Same H H' → At H' (dR (trn ps)) u → Q u H'
theorem ok_turned_row {f : Addr} {fd : FuncData} {k : Nat} (F : FnP K "turned_row" s_turned_row f fd) (B : Bi mg) : FnOk P w K mg base CX0 (k + 1) f fd ["row"] spTurnedRow := by
  refine F.ok sc_turned_row (fun vs H Q E h => ?_) (fun cdv A outer s H vs Q E hr h => ?_)
  · obtain ⟨v, ps, rfl, _⟩ := h
    rfl
  obtain ⟨v, ps, rfl, hv, hl, q⟩ := h
  obtain ⟨a, us, rfl, ha, au⟩ := hv.inv
  have hul : us.length = ps.length := by rw [au.length, List.length_map]
  refine ⟨_, PSs.nox (pss_one (ps_ret (pe_callTy (tuple_ (K := K) rfl) (by rfl) B.tuple (by decide +kernel) (pa_cons (pe_lc (own := [("need", 1), ("leave", 2)]) rfl sc_turned_row.nd (piT_ (K := K) rfl (pe_revT_ (K := K) rfl (pv 0))) (blkOk_by (N := ["row", "need", "leave"]) (sc := defScope s_turned_row) (by decide +kernel)) (fun _ _ _ _ _ => (pgT_ (K := K) (n := 2) rfl rfl (pgs_cons (pg_name (i := 1) sc_turned_row.nd rfl (.inl rfl)) (pgs_cons (pg_name (i := 2) sc_turned_row.nd rfl (.inl rfl)) pgs_nil)))) (fun _ _ _ _ _ => pts_nil) (fun _ _ _ _ _ => (pe_tup (pa_cons (pv 2) (pa_cons (pv 1) pa_nil))))) pa_nil)))), ?_⟩
  refine ⟨_, rfl, a, us, rfl, .inl (.inl ha), fun p np => ?_⟩
  have s1 := Same.new (o := .tup us.reverse) np
  refine ⟨p, rfl, ⟨_, .inl (.inl upd_same)⟩, fun D hD => ?_⟩
  have npD : p ≠ D := ne_of_none upd_same hD
  refine lc_tup (xs := us.reverse) (fun i H3 => ∃ vs, Same (upd H p (.tup us.reverse)) H3 ∧ H3 D = some (.lst vs) ∧ AtL H3 ((trn ps).take i |>.map dP) vs) ⟨[], Same.new hD, upd_same, AtL.nil⟩ ?_ ?_ ?_
  · rintro i H3 hi ⟨vs, sm, _⟩
    exact .inl (.inl (sm _ _ upd_same))
  · rintro i x H3 hx ⟨vs, sm, eD, av⟩
    have hi : i < us.length := by
      have := (List.getElem?_eq_some_iff.mp hx).1
      rw [List.length_reverse] at this
      exact this
    rw [List.getElem?_reverse hi] at hx
    obtain ⟨d, hd, ad⟩ := au.get' hx
    rw [hul, List.getElem?_map, getD_get (by omega)] at hd
    cases hd
    generalize hr0 : ps.getD (ps.length - 1 - i) (0, 0) = r at ad
    obtain ⟨t, rfl, ht⟩ := ((ad.same s1).same sm).pair
    refine ⟨t, _, rfl, .inl (.inl ht), rfl, _, _, rfl, _, _, rfl, rfl, ?_⟩
    refine ⟨rfl, lcYes ?_⟩
    refine ⟨_, rfl, _, rfl, sz2, fun p2 np2 => ?_⟩
    have nD : D ≠ p2 := ne_of_none eD np2
    have s2 := Same.new (o := .tup [V.int r.2, V.int r.1]) np2
    refine ⟨vs, s2 _ _ eD, szM (by rw [av.length, List.length_map, List.length_take, trn_len]; omega), vs ++ [.ref p2], ?_, upd_same, ?_⟩
    · exact Same.own (sm.trans s2) hD
    · have T : Tups (upd H3 p2 (.tup [V.int r.2, V.int r.1])) (upd (upd H3 p2 (.tup [V.int r.2, V.int r.1])) D (.lst (vs ++ [.ref p2]))) := fun b xs e => by
        rw [upd_ne (ne_of e (s2 _ _ eD) (by intro z; cases z))]; exact e
      rw [List.take_add_one, trn_get (by omega), hr0, List.map_append]
      exact AtL.append (AtL.up T _ _ (av.same s2)) (AtL.cons (At.up T _ _ (At.mkPair upd_same)) AtL.nil)
  · rintro H3 ⟨vs, sm, eD, av⟩
    rw [List.take_of_length_le (by rw [trn_len, List.length_reverse]; omega)] at av
    refine ⟨D, vs, rfl, .inl ⟨.inl (.inl eD), fun l nl => ?_⟩⟩
    exact q _ _ (s1.trans (sm.trans (Same.new nl))) (At.tup upd_same (av.same (Same.new nl)))

def spHeights : Sp := fun vs H Q _ => ∃ (v : V) (ps : List (Int × Int)), vs = [v] ∧ At H (dR ps) v ∧ ps.length ≤ 100000 ∧ ∀ H' u, Same H H' → At H' (.t ((hts ps).map D.i)) u → Q u H'
theorem ok_heights {f : Addr} {fd : FuncData} {k : Nat} (F : FnP K "heights" s_heights f fd) (B : Bi mg) : FnOk P w K mg base CX0 (k + 1) f fd ["row"] spHeights := by
  refine F.ok sc_heights (fun vs H Q E h => ?_) (fun cdv A outer s H vs Q E hr h => ?_)
  · obtain ⟨v, ps, rfl, _⟩ := h
    rfl
  obtain ⟨v, ps, rfl, hv, hl, q⟩ := h
  obtain ⟨a, us, rfl, ha, au⟩ := hv.inv
  have hul : us.length = ps.length := by rw [au.length, List.length_map]
  refine ⟨_, PSs.nox (pss_cons (ps_set (i := 1) sc_heights.nd rfl (.inl rfl) pe_int)
    (pss_cons (ps_set (i := 2) sc_heights.nd rfl (.inl rfl) (pe_lst (pa_cons (pv 1) pa_nil)))
    (pss_cons (ps_for PassesOwn.never rfl (piT_ (K := K) rfl (pv 0)) (pgT_ (K := K) (n := 2) rfl rfl (pgs_cons (pg_name (i := 3) sc_heights.nd rfl (.inl rfl)) (pgs_cons (pg_name (i := 4) sc_heights.nd rfl (.inl rfl)) pgs_nil)))
      (pss_cons (ps_aug (i := 1) sc_heights.nd rfl (.inl rfl) (pe_op op_sub (pv 4) (pv 3)) ip_add)
    (pss_one (ps_expr (pe_bm PySem.F.plainAttrs_list PySem.F.slot_list_append PySem.F.type_list_append mt_append (pv 2) (pa_cons (pv 1) pa_nil))))))
    (pss_one (ps_ret (pe_callTy (tuple_ (K := K) rfl) (by rfl) B.tuple (by decide +kernel) (pa_cons (pv 2) pa_nil))))))), ?_⟩
  refine ⟨_, rfl, sz1, fun o no => ?_⟩
  have s1 := Same.new (o := .lst [V.int 0]) no
  refine ⟨_, rfl, a, rfl, ⟨us, .inl (.inl (s1 _ _ ha))⟩, ?_⟩
  refine for_tup (xs := us) (fun i σ H3 => Same H H3 ∧ H3 o = some (.lst (((List.range (i + 1)).map fun k => gn (ps.take k)).map V.int)) ∧ ∃ y z, σ = [some (.ref a), some (.int (gn (ps.take i))), some (.ref o), y, z]) ⟨s1, upd_same, none, none, rfl⟩ ?_ ?_ ?_
  · rintro i σ H3 hi ⟨sm, _⟩
    exact .inl (.inl (sm _ _ ha))
  · rintro i x σ H3 hx ⟨sm, eo, y, z, rfl⟩
    obtain ⟨d, hd, ad⟩ := au.get' hx
    rw [List.getElem?_map] at hd
    cases hp : ps[i]? with
    | none => rw [hp] at hd; cases hd
    | some r =>
      rw [hp] at hd
      cases hd
      have hil : i < ps.length := (List.getElem?_eq_some_iff.mp hp).1
      obtain ⟨t, rfl, ht⟩ := (ad.same sm).pair
      refine ⟨t, _, rfl, .inl (.inl ht), rfl, _, _, rfl, _, _, rfl, rfl, ?_⟩
      refine ⟨_, rfl, _, rfl, _, rfl, _, _, rfl, rfl, _, _, rfl, rfl, ?_⟩
      refine ⟨_, rfl, .inl ⟨rfl, _, .inl (.inl eo)⟩, _, rfl, o, _, _, rfl, rfl, eo, ?_, ?_⟩
      · rw [List.length_map, List.length_map, List.length_range]
        exact szM (by omega)
      · refine ⟨Same.own sm no, ?_, some (.int r.1), some (.int r.2), ?_⟩
        · rw [upd_same, map_range_succ _ (i + 1), List.map_append]
          congr 3
          show [V.int (gn (ps.take i) + (r.2 - r.1))] = [V.int (gn (ps.take (i + 1)))]
          rw [gn_take hp]
        · rw [gn_take hp]
          rfl
  · rintro σ H3 ⟨sm, eo, y, z, rfl⟩
    refine ⟨_, rfl, o, _, rfl, .inl ⟨.inl (.inl eo), fun l nl => ?_⟩⟩
    rw [hul]
    exact q _ _ (sm.trans (Same.new nl)) (At.tup upd_same (at_ints _))

def spDips : Sp := fun vs H Q _ => ∃ (v : V) (ps : List (Int × Int)), vs = [v] ∧ At H (dR ps) v ∧ ps.length ≤ 100000 ∧ ∀ H' u, Same H H' → At H' (.t ((dps ps).map D.i)) u → Q u H'
theorem ok_dips {f : Addr} {fd : FuncData} {k : Nat} (F : FnP K "dips" s_dips f fd) (B : Bi mg) (cheights : Cl P w K mg base (k + 1) "heights" ["row"] spHeights) : FnOk P w K mg base CX0 (k + 2) f fd ["row"] spDips := by
  refine F.ok sc_dips (fun vs H Q E h => ?_) (fun cdv A outer s H vs Q E hr h => ?_)
  · obtain ⟨v, ps, rfl, _⟩ := h
    rfl
  obtain ⟨v, ps, rfl, hv, hl, q⟩ := h
  refine ⟨_, PSs.nox (pss_one (ps_ret (pe_callTy (tuple_ (K := K) rfl) (by rfl) B.tuple (by decide +kernel) (pa_cons (pe_lc (own := [("height", 1), ("pair", 2)]) rfl sc_dips.nd (RZ.pi_zipA (by rfl) B.zip (pa_cons (pe_cl cheights hr (by rfl) (pa_cons (pv 0) pa_nil)) (pa_cons (pv 0) pa_nil))) (blkOk_by (N := ["row", "height", "pair"]) (sc := defScope s_dips) (by decide +kernel)) (fun _ _ _ _ _ => (pgT_ (K := K) (n := 2) rfl rfl (pgs_cons (pg_name (i := 1) sc_dips.nd rfl (.inl rfl)) (pgs_cons (pg_name (i := 2) sc_dips.nd rfl (.inl rfl)) pgs_nil)))) (fun _ _ _ _ _ => pts_nil) (fun _ _ _ _ _ => (pe_op op_sub (pv 1) (pe_ix (ixT_ (K := K) rfl) (pv 2) pe_int (fun _ _ => rfl))))) pa_nil)))), ?_⟩
  refine ⟨_, rfl, v, ps, rfl, hv, hl, fun H1 u sm1 a1 => ?_⟩
  obtain ⟨a, us, rfl, ha, au⟩ := (hv.same sm1).inv
  obtain ⟨b, hs, rfl, hb, bu⟩ := a1.inv
  have hul : us.length = ps.length := by rw [au.length, List.length_map]
  have hhl : hs.length = ps.length + 1 := by rw [bu.length, List.length_map, hts_len]
  refine ⟨_, rfl, b, a, hs, us, rfl, .inr ⟨.inl (.inl hb), .inl (.inl ha), fun D hD => ?_⟩⟩
  refine lc_it (walk_zipT (xs := hs) (ys := us) (n := ps.length) (by omega)) (fun i H3 => Same H1 H3 ∧ H3 D = some (.lst (((List.range i).map (dpA ps)).map V.int))) ⟨Same.new hD, upd_same⟩ ?_ ?_ ?_
  · rintro i H3 hi ⟨sm, _⟩
    exact ⟨.inl (.inl (sm _ _ hb)), .inl (.inl (sm _ _ ha))⟩
  · rintro i x H3 H4 hi ⟨sm, eD⟩ ⟨T, x1, x2, rfl, nT, rfl, g1, g2⟩
    obtain ⟨d1, hd1, ad1⟩ := bu.get' g1
    obtain ⟨d2, hd2, ad2⟩ := au.get' g2
    rw [List.getElem?_map, hts_get (by omega)] at hd1
    cases hd1
    rw [List.getElem?_map, getD_get hi] at hd2
    cases hd2
    have e1 := ad1.iv
    subst e1
    have s2 := Same.new (o := .tup [V.int (gn (ps.take i)), x2]) nT
    obtain ⟨t, rfl, ht⟩ := ((ad2.same sm).same s2).pair
    refine ⟨T, _, rfl, .inl (.inl upd_same), rfl, _, _, rfl, _, _, rfl, rfl, ?_⟩
    refine ⟨rfl, lcYes ?_⟩
    refine ⟨_, rfl, _, rfl, t, _, 0, _, rfl, rfl, .inl (.inl ht), rfl, _, _, rfl, rfl, _, s2 _ _ eD, ?_, ?_, ?_⟩
    · rw [List.length_map, List.length_map, List.length_range]
      exact szM (by omega)
    · exact Same.own (sm.trans s2) hD
    · rw [upd_same, map_range_succ, List.map_append]
      rfl
  · rintro H3 ⟨sm, eD⟩
    refine ⟨D, _, rfl, .inl ⟨.inl (.inl eD), fun l nl => ?_⟩⟩
    exact q _ _ (sm1.trans (sm.trans (Same.new nl))) (At.tup upd_same (at_ints _))

def vOn : Option Nat → V
  | none => .non
  | some k => .int (k : Int)
theorem hts_at {ps : List (Int × Int)} {us : List V} {H : Hp} (h : AtL H ((hts ps).map D.i) us) {z : Int} {k : Nat} (e : z = (k : Int)) (hk : k ≤ ps.length) : atI us z = some (.int (Tl ps k)) := by
  obtain ⟨v, gv, av⟩ := h.get (i := k) (d := .i (Tl ps k)) (by rw [List.getElem?_map, hts_get hk]; rfl)
  rw [av.iv] at gv
  exact at_of e gv
theorem dps_at {ps : List (Int × Int)} {us : List V} {H : Hp} (h : AtL H ((dps ps).map D.i) us) {z : Int} {k : Nat} (e : z = (k : Int)) (hk : k < ps.length) : atI us z = some (.int (dpA ps k)) := by
  obtain ⟨v, gv, av⟩ := h.get (i := k) (d := .i (dpA ps k)) (by rw [List.getElem?_map, dps_get hk]; rfl)
  rw [av.iv] at gv
  exact at_of e gv
def spFA : Sp := fun vs H Q _ => ∃ (v : V) (ps : List (Int × Int)) (s : Nat), vs = [v, .int (s : Int)] ∧ At H (.t ((hts ps).map D.i)) v ∧ s ≤ ps.length ∧ ps.length ≤ 100000 ∧ ∀ o, IsAbove ps s o → Q (vOn o) H
theorem ok_first_above {f : Addr} {fd : FuncData} {j : Nat} (F : FnP K "first_above" s_first_above f fd) (B : Bi mg) : FnOk P w K mg base CX0 (j + 1) f fd ["tall", "start"] spFA := by
  refine F.ok sc_first_above (fun vs H Q E h => ?_) (fun cdv A outer s H vs Q E hr h => ?_)
  · obtain ⟨v, ps, s, rfl, _⟩ := h
    rfl
  obtain ⟨v, ps, s, rfl, hv, hs, hl, q⟩ := h
  obtain ⟨a, us, rfl, ha, au⟩ := hv.inv
  have hul : us.length = ps.length + 1 := by rw [au.length, List.length_map, hts_len]
  refine ⟨_, PSs.nox (pss_cons (ps_for PassesOwn.never rfl (pi_range2 (by rfl) B.range (pa_cons (pe_op op_add (pv 1) pe_int) (pa_cons (pe_callB (len_ (K := K) rfl) (by rfl) B.len PySem.boot_len (pa_cons (pv 0) pa_nil)) pa_nil))) (pg_name (i := 2) sc_first_above.nd rfl (.inl rfl))
      (pss_one (ps_if (pt_cmpR op_gt (pe_ix (ixT_ (K := K) rfl) (pv 0) (pv 2) (fun _ _ => rfl)) (pe_ix (ixT_ (K := K) rfl) (pv 0) (pv 1) (fun _ _ => rfl)) (nomark _)) (pss_one (ps_ret (pv 2))) pss_nil)))
    (pss_one (ps_ret pe_non))), ?_⟩
  refine ⟨_, rfl, _, 1, rfl, rfl, _, rfl, a, us, rfl, .inr (.inl (.inl ha)), (s : Int) + 1, (us.length : Int), rfl, ⟨by omega, by omega, by omega, by omega⟩, ?_⟩
  refine for_range (lo := (s : Int) + 1) (n := ((us.length : Int) - ((s : Int) + 1)).toNat) (fun i σ H3 => H3 = H ∧ (∀ k, s < k → k ≤ s + i → Tl ps k ≤ Tl ps s) ∧ ∃ y, σ = [some (.ref a), some (.int (s : Int)), y]) ⟨rfl, fun k _ _ => by omega, none, rfl⟩ ?_ ?_
  · rintro i σ H3 hi ⟨rfl, hk, y, rfl⟩
    refine ⟨_, rfl, _, rfl, a, us, _, _, rfl, rfl, .inl (.inl ha), hts_at au (k := s + 1 + i) (by omega) (by omega), _, rfl, _, rfl, a, us, _, _, rfl, rfl, .inl (.inl ha), hts_at au (k := s) rfl hs, _, _, rfl, rfl, _, rfl, ite2 (fun e => ?_) (fun e => ?_)⟩
    · have e1 : Tl ps s < Tl ps (s + 1 + i) := of_decide_eq_true e
      refine ⟨_, rfl, ?_⟩
      have := q (some (s + 1 + i)) ⟨by omega, by omega, e1, fun k h1 h2 => hk k h1 (by omega)⟩
      have ez : vOn (some (s + 1 + i)) = V.int ((s : Int) + 1 + (i : Int)) := congrArg V.int (by omega)
      rw [ez] at this
      exact this
    · have e1 : ¬ Tl ps s < Tl ps (s + 1 + i) := fun z => e (decide_eq_true z)
      refine ⟨rfl, fun k h1 h2 => ?_, _, rfl⟩
      by_cases ek : k = s + 1 + i
      · rw [ek]; omega
      · exact hk k h1 (by omega)
  · rintro σ H3 ⟨rfl, hk, y, rfl⟩
    exact q none fun k h1 h2 => hk k h1 (by omega)

def spUpEnd : Sp := fun vs H Q _ => ∃ (v u : V) (ps : List (Int × Int)) (s : Nat), vs = [v, u, .int (s : Int)] ∧ At H (.t ((hts ps).map D.i)) v ∧ At H (.t ((dps ps).map D.i)) u ∧ s ≤ ps.length ∧ ps.length ≤ 100000 ∧ ∀ H' e, Same H H' → IsUp ps s e → Q (.int ((e : Nat) : Int)) H'
theorem ok_up_end {f : Addr} {fd : FuncData} (F : FnP K "up_end" s_up_end f fd) (B : Bi mg) (cfirst_above : Cl P w K mg base 1 "first_above" ["tall", "start"] spFA) : FnOk P w K mg base CX0 2 f fd ["tall", "deep", "start"] spUpEnd := by
  refine F.ok sc_up_end (fun vs H Q E h => ?_) (fun cdv A outer s H vs Q E hr h => ?_)
  · obtain ⟨v, u, ps, s, rfl, _⟩ := h
    rfl
  obtain ⟨v, u, ps, s, rfl, hv, hu, hs, hl, q⟩ := h
  refine ⟨_, PSs.nox (pss_cons (ps_set (i := 3) sc_up_end.nd rfl (.inl rfl) (pe_cl cfirst_above hr (by rfl) (pa_cons (pv 0) (pa_cons (pv 2) pa_nil))))
    (pss_cons (ps_if (pt_cmpR op_isN (pv 3) pe_non (nomark _)) (pss_one (ps_ret (pv 2))) pss_nil)
    (pss_cons (ps_set (i := 4) sc_up_end.nd rfl (.inl rfl) (pe_callB (minT_ (K := K) rfl hr.units rfl) (by rfl) B.min (by decide +kernel) (pa_cons (pe_slice (slT_ (K := K) rfl) (pv 1) (po_some (pv 2)) (po_some (pv 3))) pa_nil)))
    (pss_cons (ps_set (i := 5) sc_up_end.nd rfl (.inl rfl) (pv 3))
    (pss_cons (ps_set (i := 6) sc_up_end.nd rfl (.inl rfl) (pv 3))
    (pss_cons (ps_while PassesOwn.never (PW.pt (pw_and (pt_cmpR op_lt (pv 6) (pe_callB (len_ (K := K) rfl) (by rfl) B.len PySem.boot_len (pa_cons (pv 1) pa_nil)) (nomark _)) (pw_and1 (pt_cmpR op_ge (pe_ix (ixT_ (K := K) rfl) (pv 1) (pv 6) (fun _ _ => rfl)) (pv 4) (nomark _))))) (pss_cons (ps_aug (i := 6) sc_up_end.nd rfl (.inl rfl) pe_int ip_add)
    (pss_one (ps_if (pt_cmpR op_ge (pe_ix (ixT_ (K := K) rfl) (pv 0) (pv 6) (fun _ _ => rfl)) (pe_ix (ixT_ (K := K) rfl) (pv 0) (pv 5) (fun _ _ => rfl)) (nomark _)) (pss_one (ps_set (i := 5) sc_up_end.nd rfl (.inl rfl) (pv 6))) pss_nil))))
    (pss_one (ps_ret (pv 5))))))))), ?_⟩
  refine ⟨_, rfl, _, rfl, v, ps, s, rfl, hv, hs, hl, fun o ho => ?_⟩
  cases o with
  | none =>
    refine ⟨_, rfl, rfl, _, rfl, iteT ?_⟩
    exact ⟨_, rfl, q _ s (Same.refl _) (.inl ⟨rfl, ho⟩)⟩
  | some a =>
    refine ⟨_, rfl, rfl, _, rfl, iteF ?_⟩
    have ho2 := ho
    obtain ⟨a1, a2, a3, a4⟩ := ho2
    refine ⟨_, rfl, _, rfl, _, rfl, _, rfl, _, rfl, slA_cut (i := s) (k := a) hu rfl rfl (by omega) (by rw [List.length_map, dps_len]; omega) fun H2 w2 sm2 aw2 => ?_⟩
    rw [← List.map_drop, ← List.map_take] at aw2
    have hlen : (((dps ps).drop s).take (a - s)).length = a - s := by rw [List.length_take, List.length_drop, dps_len]; omega
    obtain ⟨n, ns, en⟩ : ∃ n ns, ((dps ps).drop s).take (a - s) = n :: ns := by
      cases hc : ((dps ps).drop s).take (a - s) with
      | nil => rw [hc] at hlen; rw [List.length_nil] at hlen; omega
      | cons n ns => exact ⟨n, ns, rfl⟩
    obtain ⟨wa, wv, rfl, hw, aw⟩ := aw2.inv
    have ewv : wv = (n :: ns).map V.int := by
      rw [en] at aw
      clear hw
      apply List.ext_getElem?
      intro i
      by_cases hi : i < (n :: ns).length
      · obtain ⟨z, gz, az⟩ := aw.get (i := i) (d := .i (n :: ns)[i]) (by rw [List.getElem?_map, List.getElem?_eq_getElem hi]; rfl)
        rw [gz, az.iv, List.getElem?_map, List.getElem?_eq_getElem hi]
        rfl
      · rw [List.getElem?_eq_none (by rw [aw.length, List.length_map]; omega), List.getElem?_eq_none (by rw [List.length_map]; omega)]
    rw [ewv] at hw
    have efl := foldl_Mk a1 a2 en
    refine ⟨wa, n, ns, rfl, hw, ?_⟩
    refine ⟨_, rfl, _, rfl, ?_⟩
    replace hv := hv.same sm2
    replace hu := hu.same sm2
    obtain ⟨ta, tv, rfl, hta, att⟩ := hv.inv
    obtain ⟨da, dv, rfl, hda, add⟩ := hu.inv
    have hdl : dv.length = ps.length := by rw [add.length, List.length_map, dps_len]
    refine ⟨fun m σ H3 => H3 = H2 ∧ ∃ t b : Nat, m = ps.length - t ∧ Look ps s a (ns.foldl min n) t b ∧ σ = [some (.ref ta), some (.ref da), some (.int (s : Int)), some (.int (a : Int)), some (.int (ns.foldl min n)), some (.int (b : Int)), some (.int (t : Int))], ⟨_, rfl, a, a, rfl, Look.start ho, rfl⟩, ?_⟩
    rintro m σ H3 ⟨rfl, t, b, rfl, lk, rfl⟩
    refine ⟨_, rfl, _, rfl, da, dv, rfl, .inr (.inl (.inl hda)), _, _, rfl, rfl, _, rfl, ite2 (fun e => ?_) (fun e => ?_)⟩
    · have e1 : (t : Int) < (dv.length : Int) := of_decide_eq_true e
      have ht : t < ps.length := by omega
      refine ⟨_, rfl, _, rfl, da, dv, _, _, rfl, rfl, .inl (.inl hda), dps_at add (k := t) rfl ht, _, rfl, _, _, rfl, rfl, _, rfl, ite2 (fun e => ?_) (fun e => ?_)⟩
      · have e2 : ns.foldl min n ≤ dpA ps t := of_decide_eq_true e
        refine ⟨fun σ' H' => H' = H3 ∧ ∃ t' b' : Nat, t' = t + 1 ∧ Look ps s a (ns.foldl min n) t' b' ∧ σ' = [some (.ref ta), some (.ref da), some (.int (s : Int)), some (.int (a : Int)), some (.int (ns.foldl min n)), some (.int (b' : Int)), some (.int (t' : Int))], ?_, ?_⟩
        · rintro σ' H' ⟨rfl, t', b', rfl, lk', rfl⟩
          exact ⟨ps.length - (t + 1), by omega, rfl, t + 1, b', rfl, lk', rfl⟩
        · have lk2 := lk.step ht e2
          refine ⟨_, rfl, (t : Int), 1, rfl, rfl, ?_⟩
          have hb := lk.h4
          refine ⟨_, rfl, _, rfl, ta, tv, _, _, rfl, rfl, .inl (.inl hta), hts_at att (k := t + 1) rfl (by omega), _, rfl, _, rfl, ta, tv, _, _, rfl, rfl, .inl (.inl hta), hts_at att (k := b) rfl (by omega), _, _, rfl, rfl, _, rfl, ite2 (fun e => ?_) (fun e => ?_)⟩
          · have e3 : Tl ps b ≤ Tl ps (t + 1) := of_decide_eq_true e
            rw [if_pos e3] at lk2
            exact ⟨_, rfl, rfl, t + 1, t + 1, rfl, lk2, rfl⟩
          · have e3 : ¬ Tl ps b ≤ Tl ps (t + 1) := fun z => e (decide_eq_true z)
            rw [if_neg e3] at lk2
            exact ⟨rfl, t + 1, b, rfl, lk2, rfl⟩
      · have e2 : ¬ ns.foldl min n ≤ dpA ps t := fun z => e (decide_eq_true z)
        exact ⟨_, rfl, q _ b sm2 (lk.fin ho efl (.inr ⟨ht, by omega⟩))⟩
    · have e1 : ¬ (t : Int) < (dv.length : Int) := fun z => e (decide_eq_true z)
      have := lk.h2
      exact iteF ⟨_, rfl, q _ b sm2 (lk.fin ho efl (.inl (by omega)))⟩

def spUpsOf : Sp := fun vs H Q _ => ∃ (v : V) (ps : List (Int × Int)), vs = [v] ∧ At H (dR ps) v ∧ ps.length ≤ 100000 ∧ ∀ H' u L, Same H H' → IsUps ps 0 L → At H' (dR (L.map cst)) u → Q u H'
theorem ok_ups_of {f : Addr} {fd : FuncData} (F : FnP K "ups_of" s_ups_of f fd) (B : Bi mg) (cheights : Cl P w K mg base 1 "heights" ["row"] spHeights) (cdips : Cl P w K mg base 2 "dips" ["row"] spDips) (cup_end : Cl P w K mg base 2 "up_end" ["tall", "deep", "start"] spUpEnd) : FnOk P w K mg base CX0 3 f fd ["row"] spUpsOf := by
  refine F.ok sc_ups_of (fun vs H Q E h => ?_) (fun cdv A outer s H vs Q E hr h => ?_)
  · obtain ⟨v, ps, rfl, _⟩ := h
    rfl
  obtain ⟨v, ps, rfl, hv, hl, q⟩ := h
  refine ⟨_, PSs.nox (pss_cons (ps_set (i := 1) sc_ups_of.nd rfl (.inl rfl) (pe_cl cheights (hr.mono (by decide)) (by rfl) (pa_cons (pv 0) pa_nil)))
    (pss_cons (ps_set (i := 2) sc_ups_of.nd rfl (.inl rfl) (pe_cl cdips (hr.mono (by decide)) (by rfl) (pa_cons (pv 0) pa_nil)))
    (pss_cons (ps_set (i := 3) sc_ups_of.nd rfl (.inl rfl) (pe_lst pa_nil))
    (pss_cons (ps_set (i := 4) sc_ups_of.nd rfl (.inl rfl) pe_int)
    (pss_cons (ps_set (i := 5) sc_ups_of.nd rfl (.inl rfl) (pe_cl cup_end (hr.mono (by decide)) (by rfl) (pa_cons (pv 1) (pa_cons (pv 2) (pa_cons (pv 4) pa_nil)))))
    (pss_cons (ps_while PassesOwn.never (pt_cmpR op_gt (pv 5) (pv 4) (nomark _)) (pss_cons (ps_expr (pe_bm PySem.F.plainAttrs_list PySem.F.slot_list_append PySem.F.type_list_append mt_append (pv 3) (pa_cons (pe_tup (pa_cons (pv 4) (pa_cons (pv 5) pa_nil))) pa_nil)))
    (pss_cons (ps_set (i := 4) sc_ups_of.nd rfl (.inl rfl) (pv 5))
    (pss_one (ps_set (i := 5) sc_ups_of.nd rfl (.inl rfl) (pe_cl cup_end (hr.mono (by decide)) (by rfl) (pa_cons (pv 1) (pa_cons (pv 2) (pa_cons (pv 4) pa_nil)))))))))
    (pss_one (ps_ret (pe_callTy (tuple_ (K := K) rfl) (by rfl) B.tuple (by decide +kernel) (pa_cons (pv 3) pa_nil)))))))))), ?_⟩
  refine ⟨_, rfl, v, ps, rfl, hv, hl, fun H1 t sm1 at1 => ?_⟩
  refine ⟨_, rfl, v, ps, rfl, hv.same sm1, hl, fun H2 d sm2 ad2 => ?_⟩
  refine ⟨Nat.zero_le _, fun o no => ?_⟩
  have s3 := Same.new (o := .lst []) no
  have smA := sm1.trans (sm2.trans s3)
  replace at1 := (at1.same sm2).same s3
  replace ad2 := ad2.same s3
  have noH : H o = none := (sm1.trans sm2).free no
  refine ⟨_, rfl, _, rfl, _, rfl, t, d, ps, 0, rfl, at1, ad2, Nat.zero_le _, hl, fun H4 e4 sm4 up4 => ?_⟩
  refine ⟨fun m σ H5 => ∃ (L : List (Nat × Nat)) (s e : Nat) (us : List V), m = ps.length - s ∧ s ≤ ps.length ∧ σ = [some v, some t, some d, some (.ref o), some (.int (s : Int)), some (.int (e : Int))] ∧ Same H H5 ∧ At H5 (.t ((hts ps).map D.i)) t ∧ At H5 (.t ((dps ps).map D.i)) d ∧
    H5 o = some (.lst us) ∧ AtL H5 ((L.map cst).map dP) us ∧ IsUp ps s e ∧ (∀ R, IsUps ps s R → IsUps ps 0 (L ++ R)) ∧ L.length ≤ s, ⟨_, [], 0, e4, [], rfl, Nat.zero_le _, rfl, smA.trans sm4, at1.same sm4, ad2.same sm4, sm4 _ _ upd_same, AtL.nil, up4, fun R h => h, Nat.le_refl _⟩, ?_⟩
  rintro m σ H5 ⟨L, s, e, us, rfl, hsn, rfl, sm5, at5, ad5, eo5, al5, up5, pre5, len5⟩
  have hul : us.length = L.length := by rw [al5.length, List.length_map, List.length_map]
  refine ⟨_, rfl, _, rfl, _, _, rfl, rfl, _, rfl, ite2 (fun z => ?_) (fun z => ?_)⟩
  · have z1 : (s : Int) < (e : Int) := of_decide_eq_true z
    have hse : s < e := by omega
    have hen := up5.bd hsn
    refine ⟨fun σ' H' => ∃ (L : List (Nat × Nat)) (s' e' : Nat) (us : List V), s < s' ∧ s' ≤ ps.length ∧ σ' = [some v, some t, some d, some (.ref o), some (.int (s' : Int)), some (.int (e' : Int))] ∧ Same H H' ∧ At H' (.t ((hts ps).map D.i)) t ∧ At H' (.t ((dps ps).map D.i)) d ∧
      H' o = some (.lst us) ∧ AtL H' ((L.map cst).map dP) us ∧ IsUp ps s' e' ∧ (∀ R, IsUps ps s' R → IsUps ps 0 (L ++ R)) ∧ L.length ≤ s', ?_, ?_⟩
    · rintro σ' H' ⟨L, s', e', us, h1, h2, h3⟩
      exact ⟨ps.length - s', by omega, L, s', e', us, rfl, h2, h3⟩
    · refine ⟨_, rfl, .inl ⟨rfl, _, .inl (.inl eo5)⟩, _, rfl, _, rfl, sz2, fun p np => ?_⟩
      have s6 := Same.new (o := .tup [V.int (s : Int), V.int (e : Int)]) np
      have eo6 := s6 _ _ eo5
      refine ⟨o, us, .ref p, rfl, rfl, eo6, szM (by omega), ?_⟩
      have T := upd_lst_tups (x := .lst (us ++ [V.ref p])) eo6
      have at6 := At.up T _ _ (at5.same s6)
      have ad6 := At.up T _ _ (ad5.same s6)
      have al6 : AtL (upd (upd H5 p (.tup [V.int (s : Int), V.int (e : Int)])) o (.lst (us ++ [V.ref p]))) (((L ++ [(s, e)]).map cst).map dP) (us ++ [V.ref p]) := by
        rw [List.map_append, List.map_append]
        exact AtL.append (AtL.up T _ _ (al5.same s6)) (AtL.cons (At.up T _ _ (At.mkPair upd_same)) AtL.nil)
      have sm6 := Same.own (x := .lst (us ++ [V.ref p])) (sm5.trans s6) noH
      refine ⟨_, rfl, _, rfl, _, rfl, _, rfl, t, d, ps, e, rfl, at6, ad6, hen, hl, fun H7 e7 sm7 up7 => ?_⟩
      refine ⟨L ++ [(s, e)], e, e7, _, hse, hen, rfl, sm6.trans sm7, at6.same sm7, ad6.same sm7, sm7 _ _ upd_same, al6.same sm7, up7, fun R hR => ?_, by rw [List.length_append, List.length_singleton]; omega⟩
      rw [List.append_assoc]
      exact pre5 _ (.cons up5 hse hR)
  · have z1 : ¬ (s : Int) < (e : Int) := fun y => z (decide_eq_true y)
    have hes : e = s := by
      rcases up5 with ⟨y, _⟩ | ⟨y, _⟩
      · exact y
      · omega
    subst hes
    have fin := pre5 [] (.nil up5)
    rw [List.append_nil] at fin
    refine ⟨_, rfl, o, us, rfl, .inl ⟨.inl (.inl eo5), fun l nl => ?_⟩⟩
    exact q _ _ L (sm5.trans (Same.new nl)) fin (At.tup upd_same (al5.same (Same.new nl)))

def spMid : Sp := fun vs H Q _ => ∃ (v : V) (ps : List (Int × Int)) (s : Nat), vs = [v, .int (s : Int)] ∧ At H (dR ps) v ∧ s ≤ ps.length ∧ ps.length ≤ 100000 ∧ ∀ H' m, Same H H' → IsMid ps s m → Q (.int ((m : Nat) : Int)) H'
theorem ok_middle_end {f : Addr} {fd : FuncData} (F : FnP K "middle_end" s_middle_end f fd) (B : Bi mg) (cheights : Cl P w K mg base 1 "heights" ["row"] spHeights) : FnOk P w K mg base CX0 2 f fd ["row", "start"] spMid := by
  refine F.ok sc_middle_end (fun vs H Q E h => ?_) (fun cdv A outer s H vs Q E hr h => ?_)
  · obtain ⟨v, ps, s, rfl, _⟩ := h
    rfl
  obtain ⟨v, ps, s, rfl, hv, hs, hl, q⟩ := h
  refine ⟨_, PSs.nox (pss_cons (ps_set (i := 2) sc_middle_end.nd rfl (.inl rfl) (pe_cl cheights hr (by rfl) (pa_cons (pv 0) pa_nil)))
    (pss_cons (ps_set (i := 3) sc_middle_end.nd rfl (.inl rfl) (pv 1))
    (pss_cons (ps_for PassesOwn.never rfl (pi_range2 (by rfl) B.range (pa_cons (pv 1) (pa_cons (pe_callB (len_ (K := K) rfl) (by rfl) B.len PySem.boot_len (pa_cons (pv 2) pa_nil)) pa_nil))) (pg_name (i := 4) sc_middle_end.nd rfl (.inl rfl))
      (pss_one (ps_if (pt_cmpR op_eq (pe_ix (ixT_ (K := K) rfl) (pv 2) (pv 4) (fun _ _ => rfl)) (pe_ix (ixT_ (K := K) rfl) (pv 2) (pv 1) (fun _ _ => rfl)) (nomark _)) (pss_one (ps_set (i := 3) sc_middle_end.nd rfl (.inl rfl) (pv 4))) pss_nil)))
    (pss_one (ps_ret (pv 3)))))), ?_⟩
  refine ⟨_, rfl, v, ps, rfl, hv, hl, fun H1 t sm1 at1 => ?_⟩
  obtain ⟨a, us, rfl, ha, au⟩ := at1.inv
  have hul : us.length = ps.length + 1 := by rw [au.length, List.length_map, hts_len]
  refine ⟨_, rfl, _, rfl, _, rfl, a, us, rfl, .inr (.inl (.inl ha)), (s : Int), (us.length : Int), rfl, ⟨by omega, by omega, by omega, by omega⟩, ?_⟩
  refine for_range (lo := (s : Int)) (n := ((us.length : Int) - (s : Int)).toNat) (fun i σ H3 => H3 = H1 ∧ ∃ (m : Nat) (y : Option V), σ = [some v, some (.int (s : Int)), some (.ref a), some (.int (m : Int)), y] ∧ s ≤ m ∧ m ≤ ps.length ∧ Tl ps m = Tl ps s ∧ ∀ k, m < k → k < s + i → Tl ps k ≠ Tl ps s) ⟨rfl, s, none, rfl, Nat.le_refl _, hs, rfl, fun k _ _ => by omega⟩ ?_ ?_
  · rintro i σ H3 hi ⟨rfl, m, y, rfl, h1, h2, h3, h4⟩
    refine ⟨_, rfl, _, rfl, a, us, _, _, rfl, rfl, .inl (.inl ha), hts_at au (k := s + i) (by omega) (by omega), _, rfl, _, rfl, a, us, _, _, rfl, rfl, .inl (.inl ha), hts_at au (k := s) rfl hs, rfl, _, rfl, ite2 (fun e => ?_) (fun e => ?_)⟩
    · have e1 : Tl ps (s + i) = Tl ps s := V.int.inj (of_decide_eq_true e)
      refine ⟨_, rfl, rfl, s + i, some (.int ((s : Int) + (i : Int))), ?_, by omega, by omega, e1, fun k _ _ => by omega⟩
      show [some v, some (V.int (s : Int)), some (V.ref a), some (V.int ((s : Int) + (i : Int))), some (V.int ((s : Int) + (i : Int)))] = _
      rw [show ((s + i : Nat) : Int) = (s : Int) + (i : Int) from Int.natCast_add s i]
    · have e1 : ¬ Tl ps (s + i) = Tl ps s := fun z => e (decide_eq_true (congrArg V.int z))
      refine ⟨rfl, m, _, rfl, h1, h2, h3, fun k hk hk2 => ?_⟩
      by_cases ek : k = s + i
      · rw [ek]; exact e1
      · exact h4 k hk (by omega)
  · rintro σ H3 ⟨rfl, m, y, rfl, h1, h2, h3, h4⟩
    exact ⟨_, rfl, q _ m sm1 ⟨h1, h2, h3, fun k hk hk2 => h4 k hk (by omega)⟩⟩

def spDowns : Sp := fun vs H Q _ => ∃ (v : V) (ps : List (Int × Int)) (s : Nat), vs = [v, .int (s : Int)] ∧ At H (dR ps) v ∧ s ≤ ps.length ∧ ps.length ≤ 100000 ∧ ∀ H' u L, Same H H' → IsUps (trn (ps.drop s)) 0 L → At H' (dR (dwn ps.length L)) u → Q u H'
theorem ok_downs_of {f : Addr} {fd : FuncData} (F : FnP K "downs_of" s_downs_of f fd) (B : Bi mg) (cups_of : Cl P w K mg base 3 "ups_of" ["row"] spUpsOf) (cturned_row : Cl P w K mg base 1 "turned_row" ["row"] spTurnedRow) : FnOk P w K mg base CX0 4 f fd ["row", "start"] spDowns := by
  refine F.ok sc_downs_of (fun vs H Q E h => ?_) (fun cdv A outer s H vs Q E hr h => ?_)
  · obtain ⟨v, ps, s, rfl, _⟩ := h
    rfl
  obtain ⟨v, ps, s, rfl, hv, hs, hl, q⟩ := h
  obtain ⟨a, us, rfl, ha, au⟩ := id hv.inv
  have hul : us.length = ps.length := by rw [au.length, List.length_map]
  refine ⟨_, PSs.nox (pss_cons (ps_set (i := 2) sc_downs_of.nd rfl (.inr rfl) (pe_callB (len_ (K := K) rfl) (by rfl) B.len PySem.boot_len (pa_cons (pv 0) pa_nil)))
    (pss_cons (ps_set (i := 3) sc_downs_of.nd rfl (.inl rfl) (pe_cl cups_of (hr.mono (by decide)) (by rfl) (pa_cons (pe_cl cturned_row (hr.mono (by decide)) (by rfl) (pa_cons (pe_slice (slT_ (K := K) rfl) (pv 0) (po_some (pv 1)) po_none) pa_nil)) pa_nil)))
    (pss_one (ps_ret (pe_callTy (tuple_ (K := K) rfl) (by rfl) B.tuple (by decide +kernel) (pa_cons (pe_lc (own := [("first", 4), ("last", 5)]) rfl sc_downs_of.nd (piT_ (K := K) rfl (pe_revT_ (K := K) rfl (pv 3))) (blkOk_by (N := ["row", "start", "many", "turned", "first", "last"]) (sc := defScope s_downs_of) (by decide +kernel)) (fun _ _ _ _ _ => (pgT_ (K := K) (n := 2) rfl rfl (pgs_cons (pg_name (i := 4) sc_downs_of.nd rfl (.inl rfl)) (pgs_cons (pg_name (i := 5) sc_downs_of.nd rfl (.inl rfl)) pgs_nil)))) (fun _ _ _ _ _ => pts_nil) (fun _ _ _ _ _ => (pe_tup (pa_cons (pe_op op_sub (pv 2) (pv 5)) (pa_cons (pe_op op_sub (pv 2) (pv 4)) pa_nil))))) pa_nil)))))), ?_⟩
  refine ⟨_, rfl, a, us, rfl, .inr (.inl (.inl ha)), ?_⟩
  refine ⟨_, rfl, _, rfl, _, rfl, slA_dropN (k := s) hv rfl fun H1 u1 sm1 a1 => ?_⟩
  rw [← List.map_drop] at a1
  refine ⟨u1, ps.drop s, rfl, a1, by rw [List.length_drop]; omega, fun H2 u2 sm2 a2 => ?_⟩
  refine ⟨u2, _, rfl, a2, by rw [trn_len, List.length_drop]; omega, fun H3 u3 L sm3 up3 a3 => ?_⟩
  obtain ⟨b, ws, rfl, hb, bw⟩ := a3.inv
  have hwl : ws.length = L.length := by rw [bw.length, List.length_map, List.length_map]
  have hLl : L.length ≤ 100000 := by
    have := up3.len (Nat.zero_le _)
    rw [trn_len, List.length_drop] at this
    omega
  refine ⟨_, rfl, b, ws, rfl, .inl (.inl hb), fun p np => ?_⟩
  have s4 := Same.new (o := .tup ws.reverse) np
  refine ⟨p, rfl, ⟨_, .inl (.inl upd_same)⟩, fun D hD => ?_⟩
  refine lc_tup (xs := ws.reverse) (fun i H5 => ∃ vs, Same (upd H3 p (.tup ws.reverse)) H5 ∧ H5 D = some (.lst vs) ∧ AtL H5 (((dwn ps.length L).take i).map dP) vs) ⟨[], Same.new hD, upd_same, AtL.nil⟩ ?_ ?_ ?_
  · rintro i H5 hi ⟨vs, sm, _⟩
    exact .inl (.inl (sm _ _ upd_same))
  · rintro i x H5 hx ⟨vs, sm, eD, av⟩
    have hi : i < ws.length := by
      have := (List.getElem?_eq_some_iff.mp hx).1
      rw [List.length_reverse] at this
      exact this
    rw [List.getElem?_reverse hi] at hx
    obtain ⟨d, hd, ad⟩ := bw.get' hx
    rw [List.getElem?_map, List.getElem?_map] at hd
    cases hp : L[ws.length - 1 - i]? with
    | none => rw [hp] at hd; cases hd
    | some r =>
      rw [hp] at hd
      cases hd
      obtain ⟨t, rfl, ht⟩ := ((ad.same s4).same sm).pair
      refine ⟨t, _, rfl, .inl (.inl ht), rfl, _, _, rfl, _, _, rfl, rfl, ?_⟩
      refine ⟨rfl, lcYes ?_⟩
      refine ⟨_, rfl, _, rfl, _, _, rfl, rfl, _, rfl, _, rfl, _, _, rfl, rfl, sz2, fun p2 np2 => ?_⟩
      have s5 := Same.new (o := .tup [V.int ((us.length : Int) - (cst r).2), V.int ((us.length : Int) - (cst r).1)]) np2
      refine ⟨vs, s5 _ _ eD, szM ?_, vs ++ [.ref p2], ?_, upd_same, ?_⟩
      · rw [av.length, List.length_map, List.length_take]
        unfold dwn
        rw [List.length_map, List.length_reverse]
        omega
      · exact Same.own (sm.trans s5) hD
      · have T := upd_lst_tups (x := .lst (vs ++ [V.ref p2])) (s5 _ _ eD)
        have eg : (dwn ps.length L)[i]? = some ((us.length : Int) - (cst r).2, (us.length : Int) - (cst r).1) := by
          unfold dwn
          rw [List.getElem?_map, List.getElem?_reverse (by omega), ← hwl, hp, hul]
          rfl
        rw [List.take_add_one, eg, List.map_append]
        exact AtL.append (AtL.up T _ _ (av.same s5)) (AtL.cons (At.up T _ _ (At.mkPair upd_same)) AtL.nil)
  · rintro H5 ⟨vs, sm, eD, av⟩
    rw [List.take_of_length_le (by unfold dwn; rw [List.length_map, List.length_reverse, List.length_reverse]; omega)] at av
    refine ⟨D, vs, rfl, .inl ⟨.inl (.inl eD), fun l nl => ?_⟩⟩
    exact q _ _ L (sm1.trans (sm2.trans (sm3.trans (s4.trans (sm.trans (Same.new nl)))))) up3 (At.tup upd_same (av.same (Same.new nl)))

def dCut (n : Nat) (L : List (Nat × Nat)) (m : Nat) (LD : List (Nat × Nat)) : D := .t [dR (L.map cst), dP (((lastE 0 L : Nat) : Int), (m : Int)), dR (dwn n LD)]
def IsCut (ps : List (Int × Int)) (L : List (Nat × Nat)) (m : Nat) (LD : List (Nat × Nat)) : Prop := IsUps ps 0 L ∧ IsMid ps (lastE 0 L) m ∧ IsUps (trn (ps.drop m)) 0 LD
theorem IsCut.uniq {ps : List (Int × Int)} {L L' : List (Nat × Nat)} {m m' : Nat} {LD LD' : List (Nat × Nat)} (h : IsCut ps L m LD) (h' : IsCut ps L' m' LD') : L = L' ∧ m = m' ∧ LD = LD' := by
  obtain ⟨h1, h2, h3⟩ := h
  obtain ⟨g1, g2, g3⟩ := h'
  have e1 := h1.uniq g1
  subst e1
  have e2 := h2.uniq g2
  subst e2
  exact ⟨rfl, rfl, h3.uniq g3⟩
def spCut : Sp := fun vs H Q _ => ∃ (v : V) (ps : List (Int × Int)), vs = [v] ∧ At H (dR ps) v ∧ ps.length ≤ 100000 ∧ ∀ H' u L m LD, Same H H' → IsCut ps L m LD → At H' (dCut ps.length L m LD) u → Q u H'
theorem ok_cut {f : Addr} {fd : FuncData} (F : FnP K "cut" s_cut f fd) (B : Bi mg) (cups_of : Cl P w K mg base 3 "ups_of" ["row"] spUpsOf) (cmiddle_end : Cl P w K mg base 2 "middle_end" ["row", "start"] spMid) (cdowns_of : Cl P w K mg base 4 "downs_of" ["row", "start"] spDowns) : FnOk P w K mg base CX0 5 f fd ["row"] spCut := by
  refine F.ok sc_cut (fun vs H Q E h => ?_) (fun cdv A outer s H vs Q E hr h => ?_)
  · obtain ⟨v, ps, rfl, _⟩ := h
    rfl
  obtain ⟨v, ps, rfl, hv, hl, q⟩ := h
  refine ⟨_, PSs.nox (pss_cons (ps_set (i := 1) sc_cut.nd rfl (.inl rfl) (pe_cl cups_of (hr.mono (by decide)) (by rfl) (pa_cons (pv 0) pa_nil)))
    (pss_cons (ps_set (i := 2) sc_cut.nd rfl (.inl rfl) (pe_ifExp (pt_truth (pv 1) (by intro _; rfl)) (pe_ix (ixT_ (K := K) rfl) (pe_ix (ixT_ (K := K) rfl) (pv 1) (pe_un un_neg pe_int) (fun _ _ => rfl)) pe_int (fun _ _ => rfl)) pe_int))
    (pss_cons (ps_set (i := 3) sc_cut.nd rfl (.inl rfl) (pe_cl cmiddle_end (hr.mono (by decide)) (by rfl) (pa_cons (pv 0) (pa_cons (pv 2) pa_nil))))
    (pss_one (ps_ret (pe_tup (pa_cons (pv 1) (pa_cons (pe_tup (pa_cons (pv 2) (pa_cons (pv 3) pa_nil))) (pa_cons (pe_cl cdowns_of (hr.mono (by decide)) (by rfl) (pa_cons (pv 0) (pa_cons (pv 3) pa_nil))) pa_nil))))))))), ?_⟩
  refine ⟨_, rfl, v, ps, rfl, hv, hl, fun H1 u L sm1 up1 a1 => ?_⟩
  obtain ⟨b, ws, rfl, hb, bw⟩ := id a1.inv
  have hwl : ws.length = L.length := by rw [bw.length, List.length_map, List.length_map]
  have hle := up1.le (Nat.zero_le _)
  have rest : ∀ σ2, σ2 = [some v, some (.ref b), some (.int ((lastE 0 L : Nat) : Int)), none] → tSeq (tAsg (tCall spMid [] E0 (tCons (tVar 0) (tCons (tVar 2) tNil))) (gName 3)) (tRet (tTup (tCons (tVar 1) (tCons (tTup (tCons (tVar 2) (tCons (tVar 3) tNil))) (tCons (tCall spDowns [] E0 (tCons (tVar 0) (tCons (tVar 3) tNil))) tNil))))) { nx := fun _ H' => Q .non H', rt := Q } σ2 H1 := by
    rintro σ2 rfl
    refine ⟨_, rfl, _, rfl, v, ps, lastE 0 L, rfl, hv.same sm1, hle.2, hl, fun H2 m sm2 md2 => ?_⟩
    refine ⟨_, rfl, _, rfl, _, rfl, sz2, fun p np => ?_⟩
    have s3 := Same.new (o := .tup [V.int ((lastE 0 L : Nat) : Int), V.int (m : Int)]) np
    refine ⟨_, rfl, _, rfl, v, ps, m, rfl, ((hv.same sm1).same sm2).same s3, md2.2.1, hl, fun H4 w4 LD sm4 up4 a4 => ?_⟩
    refine ⟨sz3, fun p2 np2 => ?_⟩
    have s5 := Same.new (o := .tup [V.ref b, V.ref p, w4]) np2
    have sm := sm2.trans (s3.trans (sm4.trans s5))
    refine q _ _ L m LD (sm1.trans sm) ⟨up1, md2, up4⟩ (At.tup upd_same (AtL.cons (a1.same sm) (AtL.cons ?_ (AtL.cons (a4.same s5) AtL.nil))))
    exact ((At.mkPair (H := upd H2 p (.tup [V.int ((lastE 0 L : Nat) : Int), V.int (m : Int)])) upd_same).same sm4).same s5
  by_cases h0 : ws = []
  · refine ⟨_, rfl, false, .inr (.inl ⟨ws, .inl (.inl hb), by rw [h0]; rfl⟩), iteF ?_⟩
    have hL : L = [] := List.eq_nil_of_length_eq_zero (by rw [← hwl, h0]; rfl)
    exact rest _ (by rw [hL]; rfl)
  · refine ⟨_, rfl, true, .inr (.inl ⟨ws, .inl (.inl hb), ?_⟩), iteT ?_⟩
    · cases ws with
      | nil => exact absurd rfl h0
      | cons x r => rfl
    have hL : L ≠ [] := fun e => h0 (List.eq_nil_of_length_eq_zero (by rw [hwl, e]; rfl))
    have hg : L.getLast? = some (L.getLast hL) := List.getLast?_eq_getLast hL
    have eE := lastE_last (s := 0) hg
    have hLp : 0 < L.length := List.length_pos_iff.mpr hL
    obtain ⟨z, gz, az⟩ := bw.get (i := L.length - 1) (d := dP (cst (L.getLast hL))) (by
      rw [List.getElem?_map, List.getElem?_map, ← List.getLast?_eq_getElem?, hg]
      rfl)
    obtain ⟨t, rfl, ht⟩ := az.pair
    have al : atI ws (-1) = some (.ref t) := by
      have hw0 : ws ≠ [] := h0
      have e1 := List.dropLast_concat_getLast hw0
      have e2 : ws.getLast hw0 = .ref t := by
        have e3 : ws.getLast? = some (.ref t) := by
          rw [List.getLast?_eq_getElem?, hwl]
          exact gz
        rw [List.getLast?_eq_getLast hw0] at e3
        exact Option.some.inj e3
      rw [e2] at e1
      rw [← e1]
      exact atI_last _ _
    refine ⟨_, rfl, 1, rfl, b, ws, -1, _, rfl, rfl, .inl (.inl hb), al, t, _, 1, _, rfl, rfl, .inl (.inl ht), rfl, ?_⟩
    exact rest _ (by rw [eE]; rfl)

def isI : D → Bool
  | .i _ => true
  | _ => false
def spWholeN : Sp := fun vs H Q _ => ∃ (v : V) (d : D), vs = [v] ∧ At H d v ∧ Q (.bl (isI d)) H
theorem ok_is_whole {f : Addr} {fd : FuncData} {k : Nat} (F : FnP K "is_whole" s_is_whole f fd) (B : Bi mg) : FnOk P w K mg base CX0 (k + 1) f fd ["thing"] spWholeN := by
  refine F.ok sc_is_whole (fun vs H Q E h => ?_) (fun cdv A outer s H vs Q E hr h => ?_)
  · obtain ⟨v, d, rfl, _⟩ := h
    rfl
  obtain ⟨v, d, rfl, hv, q⟩ := h
  refine ⟨_, PSs.nox (pss_one (ps_ret (pe_and (pe_callB (isi_ (K := K) rfl) (by rfl) B.isinstance (by decide +kernel) (pa_cons (pv 0) (pa_cons (pe_bltn (by rfl) B.int (by decide +kernel) (rel_ty "int")) pa_nil))) (pe_one (pe_not (pe_callB (isi_ (K := K) rfl) (by rfl) B.isinstance (by decide +kernel) (pa_cons (pv 0) (pa_cons (pe_bltn (by rfl) B.bool (by decide +kernel) (rel_ty "bool")) pa_nil)))))))), ?_⟩
  cases d with
  | t l =>
    obtain ⟨a, us, rfl, ha, au⟩ := hv.inv
    exact ⟨_, rfl, _, _, _, _, _, rfl, ClsV.ty _, TyX.base (TyOf.tup ha), kit_ty (b := "int") (r := false) (by decide +kernel), _, rfl, iteF q⟩
  | n =>
    unfold At at hv
    subst hv
    exact ⟨_, rfl, _, _, _, _, _, rfl, ClsV.ty _, TyX.base .non, kit_ty (b := "int") (r := false) (by decide +kernel), _, rfl, iteF q⟩
  | b x =>
    unfold At at hv
    subst hv
    exact ⟨_, rfl, _, _, _, _, _, rfl, ClsV.ty _, TyX.base (.bl x), kit_ty (b := "int") (r := true) (by decide +kernel), _, rfl, iteT ⟨_, rfl, _, _, _, _, _, rfl, ClsV.ty _, TyX.base (.bl x), kit_ty (b := "bool") (r := true) (by decide +kernel), _, rfl, q⟩⟩
  | s x =>
    unfold At at hv
    subst hv
    exact ⟨_, rfl, _, _, _, _, _, rfl, ClsV.ty _, TyX.base (.str x), kit_ty (b := "int") (r := false) (by decide +kernel), _, rfl, iteF q⟩
  | i x =>
    unfold At at hv
    subst hv
    exact ⟨_, rfl, _, _, _, _, _, rfl, ClsV.ty _, TyX.base (.int x), kit_ty (b := "int") (r := true) (by decide +kernel), _, rfl, iteT ⟨_, rfl, _, _, _, _, _, rfl, ClsV.ty _, TyX.base (.int x), kit_ty (b := "bool") (r := false) (by decide +kernel), _, rfl, q⟩⟩

mutual
/-- data of whole numbers and tuples that are the same -/
def dEq : D → D → Bool
  | .i x, .i y => decide (x = y)
  | .t l, .t r => dEqL l r
  | _, _ => false
def dEqL : List D → List D → Bool
  | [], [] => true
  | x :: l, y :: r => dEq x y && dEqL l r
  | _, _ => false
end
def IT : D → Prop
  | .i _ => True
  | .t _ => True
  | _ => False
/-- whole numbers and tuples of such, at most k deep -/
def Num : Nat → D → Prop
  | _, .i _ => True
  | 0, .t _ => False
  | k + 1, .t l => l.length ≤ 1000000 ∧ ∀ d ∈ l, Num k d
  | _, _ => False
theorem dEqL_len : ∀ {l r : List D}, dEqL l r = true → l.length = r.length
  | [], [], _ => rfl
  | [], _ :: _, h => by simp [dEqL] at h
  | _ :: _, [], h => by simp [dEqL] at h
  | x :: l, y :: r, h => by
    unfold dEqL at h
    rw [Bool.and_eq_true] at h
    rw [List.length_cons, List.length_cons, dEqL_len h.2]
theorem dEqL_all : ∀ {l r : List D}, l.length = r.length → dEqL l r = ((List.range l.length).map fun i => dEq (l.getD i .n) (r.getD i .n)).all id
  | [], [], _ => by simp [dEqL]
  | [], _ :: _, h => by simp at h
  | _ :: _, [], h => by simp at h
  | x :: l, y :: r, h => by
    have ih := dEqL_all (l := l) (r := r) (by simpa using h)
    unfold dEqL
    rw [ih, List.length_cons, List.range_succ_eq_map, List.map_cons, List.all_cons, List.map_map]
    rfl
def spSame (k : Nat) : Sp := fun vs H Q _ => ∃ (d e : D) (u v : V), vs = [u, v] ∧ Num k d ∧ Num k e ∧ At H d u ∧ At H e v ∧ ∀ H', Same H H' → Q (.bl (dEq d e)) H'
theorem same_step {f : Addr} {fd : FuncData} {k : Nat} {spR : Sp} (F : FnP K "same" s_same f fd) (B : Bi mg) (cis_whole : Cl P w K mg base (k + 1) "is_whole" ["thing"] spWholeN) (csame : Cl P w K mg base (k + 1) "same" ["told", "thing"] spR)
    (hR : ∀ (d e : D) (u v : V) (H : Hp) (Q : VK) (E : XK) (l r : List D), Num k (.t l) → Num k (.t r) → d ∈ l → e ∈ r → At H d u → At H e v → (∀ H', Same H H' → Q (.bl (dEq d e)) H') → spR [u, v] H Q E) : FnOk P w K mg base CX0 (k + 2) f fd ["told", "thing"] (spSame k) := by
  refine F.ok sc_same (fun vs H Q E h => ?_) (fun cdv A outer s H vs Q E hr h => ?_)
  · obtain ⟨d, e, u, v, rfl, _⟩ := h
    rfl
  obtain ⟨d, e, u, v, rfl, hd, he, hu, hv, q⟩ := h
  refine ⟨_, PSs.nox (pss_cons (ps_if (pt_val (pe_callB (isi_ (K := K) rfl) (by rfl) B.isinstance (by decide +kernel) (pa_cons (pv 0) (pa_cons (pe_bltn (by rfl) B.tuple (by decide +kernel) (rel_ty "tuple")) pa_nil)))) (pss_one (ps_ret (pe_and (pe_callB (isi_ (K := K) rfl) (by rfl) B.isinstance (by decide +kernel) (pa_cons (pv 1) (pa_cons (pe_bltn (by rfl) B.tuple (by decide +kernel) (rel_ty "tuple")) pa_nil))) (pe_and (pe_cmpR op_eq (pe_callB (len_ (K := K) rfl) (by rfl) B.len PySem.boot_len (pa_cons (pv 0) pa_nil)) (pe_callB (len_ (K := K) rfl) (by rfl) B.len PySem.boot_len (pa_cons (pv 1) pa_nil)) (nomark _)) (pe_one (pe_callB (all_ (K := K) rfl rfl) (by rfl) B.all (by decide +kernel) (pa_cons (pe_lc (own := [("part", 2), ("other", 3)]) rfl sc_same.nd (RZ.pi_zipA (by rfl) B.zip (pa_cons (pv 0) (pa_cons (pv 1) pa_nil))) (blkOk_by (N := ["told", "thing", "part", "other"]) (sc := defScope s_same) (by decide +kernel)) (fun _ _ _ _ _ => (pgT_ (K := K) (n := 2) rfl rfl (pgs_cons (pg_name (i := 2) sc_same.nd rfl (.inl rfl)) (pgs_cons (pg_name (i := 3) sc_same.nd rfl (.inl rfl)) pgs_nil)))) (fun _ _ _ _ _ => pts_nil) (fun _ _ _ _ _ => (pe_cl csame hr (by rfl) (pa_cons (pv 2) (pa_cons (pv 3) pa_nil))))) pa_nil))))))) pss_nil)
    (pss_one (ps_ret (pe_and (pe_cmpR op_eq (pe_cl cis_whole hr (by rfl) (pa_cons (pv 0) pa_nil)) (pe_cl cis_whole hr (by rfl) (pa_cons (pv 1) pa_nil)) (nomark _)) (pe_one (pe_cmpR op_eq (pv 0) (pv 1) (nomark _))))))), ?_⟩
  cases d with
  | t l =>
    obtain ⟨a, us, rfl, ha, au⟩ := hu.inv
    refine ⟨_, rfl, _, _, _, _, _, rfl, ClsV.ty _, TyX.base (TyOf.tup ha), kit_ty (b := "tuple") (r := true) (by decide +kernel), _, rfl, iteT ?_⟩
    cases e with
    | t r =>
      obtain ⟨b, vs, rfl, hb, bv⟩ := hv.inv
      refine ⟨_, rfl, _, _, _, _, _, rfl, ClsV.ty _, TyX.base (TyOf.tup hb), kit_ty (b := "tuple") (r := true) (by decide +kernel), _, rfl, iteT ?_⟩
      refine ⟨_, rfl, a, us, rfl, .inr (.inl (.inl ha)), _, rfl, b, vs, rfl, .inr (.inl (.inl hb)), rfl, _, rfl, ite2 (fun z => ?_) (fun z => ?_)⟩
      · have el : l.length = r.length := by
          have z1 : ((us.length : Nat) : Int) = ((vs.length : Nat) : Int) := V.int.inj (of_decide_eq_true z)
          rw [← au.length, ← bv.length]
          omega
        have hk : ∃ j, k = j + 1 := by
          cases k with
          | zero => exact hd.elim
          | succ j => exact ⟨j, rfl⟩
        have hll : l.length ≤ 1000000 := by
          obtain ⟨j, rfl⟩ := hk
          exact hd.1
        refine ⟨_, rfl, _, rfl, a, b, us, vs, rfl, .inr ⟨.inl (.inl ha), .inl (.inl hb), fun D hD => ?_⟩⟩
        refine lc_it (walk_zipT (xs := us) (ys := vs) (n := l.length) (by rw [au.length, bv.length]; omega)) (fun i H3 => Same H H3 ∧ H3 D = some (.lst (((List.range i).map fun i => dEq (l.getD i .n) (r.getD i .n)).map V.bl))) ⟨Same.new hD, upd_same⟩ ?_ ?_ ?_
        · rintro i H3 hi ⟨sm, _⟩
          exact ⟨.inl (.inl (sm _ _ ha)), .inl (.inl (sm _ _ hb))⟩
        · rintro i x H3 H4 hi ⟨sm, eD⟩ ⟨T, x1, x2, rfl, nT, rfl, g1, g2⟩
          obtain ⟨d1, hd1, ad1⟩ := au.get' g1
          obtain ⟨d2, hd2, ad2⟩ := bv.get' g2
          have e1 : l.getD i .n = d1 := by rw [List.getD_eq_getElem?_getD, hd1]; rfl
          have e2 : r.getD i .n = d2 := by rw [List.getD_eq_getElem?_getD, hd2]; rfl
          have s2 := Same.new (o := .tup [x1, x2]) nT
          refine ⟨T, _, rfl, .inl (.inl upd_same), rfl, _, _, rfl, _, _, rfl, rfl, ?_⟩
          refine ⟨rfl, lcYes ?_⟩
          refine ⟨_, rfl, _, rfl, hR d1 d2 x1 x2 _ _ _ l r hd he (List.mem_of_getElem? hd1) (List.mem_of_getElem? hd2) ((ad1.same sm).same s2) ((ad2.same sm).same s2) fun H5 sm5 => ?_⟩
          refine ⟨_, sm5 _ _ (s2 _ _ eD), ?_, Same.own (sm.trans (s2.trans sm5)) hD, ?_⟩
          · rw [List.length_map, List.length_map, List.length_range]
            exact szM (by omega)
          · rw [upd_same, map_range_succ, List.map_append, e1, e2]
            rfl
        · rintro H3 ⟨sm, eD⟩
          refine ⟨D, _, rfl, .inl (.inl eD), ?_⟩
          rw [← dEqL_all el]
          have := q H3 sm
          unfold dEq at this
          exact this
      · have nl : ¬ l.length = r.length := fun y => z (decide_eq_true (by rw [au.length, bv.length, y]))
        have := q H (Same.refl _)
        have ef : dEq (.t l) (.t r) = false := by
          unfold dEq
          cases hc : dEqL l r with
          | false => rfl
          | true => exact absurd (dEqL_len hc) nl
        rw [ef] at this
        exact this
    | i x =>
      unfold At at hv
      subst hv
      refine ⟨_, rfl, _, _, _, _, _, rfl, ClsV.ty _, TyX.base (.int x), kit_ty (b := "tuple") (r := false) (by decide +kernel), _, rfl, iteF ?_⟩
      have := q H (Same.refl _)
      unfold dEq at this
      exact this
    | n => cases k <;> exact he.elim
    | b x => cases k <;> exact he.elim
    | s x => cases k <;> exact he.elim
  | i x =>
    have hu2 := hu
    unfold At at hu2
    subst hu2
    refine ⟨_, rfl, _, _, _, _, _, rfl, ClsV.ty _, TyX.base (.int x), kit_ty (b := "tuple") (r := false) (by decide +kernel), _, rfl, iteF ?_⟩
    refine ⟨_, rfl, _, .i x, rfl, hu, _, rfl, v, e, rfl, hv, rfl, _, rfl, ?_⟩
    cases e with
    | i y =>
      unfold At at hv
      subst hv
      refine iteT ?_
      refine ⟨_, rfl, _, rfl, rfl, ?_⟩
      have := q H (Same.refl _)
      unfold dEq at this
      have eb : decide (V.int x = V.int y) = decide (x = y) := by
        by_cases h : x = y
        · rw [decide_eq_true h, decide_eq_true (congrArg V.int h)]
        · rw [decide_eq_false h, decide_eq_false fun z => h (V.int.inj z)]
      rw [eb]
      exact this
    | t r =>
      refine iteF ?_
      have := q H (Same.refl _)
      unfold dEq at this
      exact this
    | n => cases k <;> exact he.elim
    | b x => cases k <;> exact he.elim
    | s x => cases k <;> exact he.elim
  | n => cases k <;> exact hd.elim
  | b x => cases k <;> exact hd.elim
  | s x => cases k <;> exact hd.elim
theorem ok_same {f : Addr} {fd : FuncData} (F : FnP K "same" s_same f fd) (B : Bi mg) (hm : mg "same" = some (.ref f)) (cis_whole : Cl P w K mg base 1 "is_whole" ["thing"] spWholeN) : ∀ k, FnOk P w K mg base CX0 (k + 2) f fd ["told", "thing"] (spSame k)
  | 0 => by
    have b : Binds K fd ["told", "thing"] [] := FunD.bindsN F fun _ _ _ _ _ _ us hl => match us, hl with | [_, _], _ => rfl
    exact same_step (spR := fun _ _ _ _ => False) F B cis_whole ⟨f, fd, hm, F.kp, b, ⟨fun _ _ _ _ h => h.elim, fun _ _ _ _ _ _ _ _ _ _ _ _ _ h => h.elim⟩⟩ fun d e u v H Q E l r h => h.elim
  | k + 1 => by
    have b : Binds K fd ["told", "thing"] [] := FunD.bindsN F fun _ _ _ _ _ _ us hl => match us, hl with | [_, _], _ => rfl
    exact same_step (spR := spSame k) F B (cis_whole.mono (by omega)) ⟨f, fd, hm, F.kp, b, ok_same F B hm cis_whole k⟩ fun d e u v H Q E l r h1 h2 m1 m2 a1 a2 q => ⟨d, e, u, v, rfl, h1.2 d m1, h2.2 e m2, a1, a2, q⟩

def spHold : Sp := fun vs H Q _ => ∃ (v u : V) (ps : List (Int × Int)) (d : D), vs = [v, u] ∧ At H (dR ps) v ∧ At H d u ∧ Num 3 d ∧ ps.length ≤ 100000 ∧ ∀ H' L m LD, Same H H' → IsCut ps L m LD → Q (.bl (dEq (dCut ps.length L m LD) d)) H'
theorem num_row {ps : List (Int × Int)} (h : ps.length ≤ 1000000) : Num 2 (dR ps) := by
  refine ⟨by rw [List.length_map]; exact h, fun d hd => ?_⟩
  obtain ⟨x, _, rfl⟩ := List.mem_map.mp hd
  refine ⟨(show 2 ≤ 1000000 by decide), fun e he => ?_⟩
  rcases List.mem_cons.mp he with z | z
  · rw [z]; trivial
  · rw [List.mem_singleton.mp z]; trivial
theorem num_pair (x : Int × Int) : Num 2 (dP x) := by
  refine ⟨(show 2 ≤ 1000000 by decide), fun e he => ?_⟩
  rcases List.mem_cons.mp he with z | z
  · rw [z]; trivial
  · rw [List.mem_singleton.mp z]; trivial
theorem num_cut {p q : List (Int × Int)} {x : Int × Int} (h1 : p.length ≤ 1000000) (h2 : q.length ≤ 1000000) : Num 3 (.t [dR p, dP x, dR q]) := by
  refine ⟨(show 3 ≤ 1000000 by decide), fun d hd => ?_⟩
  rcases List.mem_cons.mp hd with z | z
  · rw [z]; exact num_row h1
  rcases List.mem_cons.mp z with z | z
  · rw [z]; exact num_pair x
  · rw [List.mem_singleton.mp z]; exact num_row h2
theorem dwn_len (n : Nat) (l : List (Nat × Nat)) : (dwn n l).length = l.length := by unfold dwn; rw [List.length_map, List.length_reverse]
theorem ok_stretches_hold {f : Addr} {fd : FuncData} (F : FnP K "stretches_hold" s_stretches_hold f fd) (ccut : Cl P w K mg base 5 "cut" ["row"] spCut) (csame : Cl P w K mg base 5 "same" ["told", "thing"] (spSame 3)) : FnOk P w K mg base CX0 6 f fd ["row", "thing"] spHold := by
  refine F.ok sc_stretches_hold (fun vs H Q E h => ?_) (fun cdv A outer s H vs Q E hr h => ?_)
  · obtain ⟨v, u, ps, d, rfl, _⟩ := h
    rfl
  obtain ⟨v, u, ps, d, rfl, hv, hu, hd, hl, q⟩ := h
  refine ⟨_, PSs.nox (pss_one (ps_ret (pe_cl csame hr (by rfl) (pa_cons (pe_cl ccut hr (by rfl) (pa_cons (pv 0) pa_nil)) (pa_cons (pv 1) pa_nil))))), ?_⟩
  refine ⟨_, rfl, v, ps, rfl, hv, hl, fun H1 c1 L m LD sm1 ct a1 => ?_⟩
  have h1 := ct.1.len (Nat.zero_le _)
  have h2 := ct.2.2.len (Nat.zero_le _)
  rw [trn_len, List.length_drop] at h2
  exact ⟨_, rfl, _, d, c1, u, rfl, num_cut (by rw [List.length_map]; omega) (by rw [dwn_len]; omega), hd, a1, hu.same sm1, fun H2 sm2 => q H2 L m LD (sm1.trans sm2) ct⟩

def spInOne : Sp := fun vs H Q _ => ∃ (v : V) (ps : List (Int × Int)), vs = [v] ∧ At H (dR ps) v ∧ ∀ H' u, Same H H' → At H' (dP (inOne ps)) u → Q u H'
theorem ok_in_one {f : Addr} {fd : FuncData} {k : Nat} (F : FnP K "_law_in_one" s_law_in_one f fd) (B : Bi mg) : FnOk P w K mg base CX0 (k + 1) f fd ["_law_row_here"] spInOne := by
  refine F.ok sc_law_in_one (fun vs H Q E h => ?_) (fun cdv A outer s H vs Q E hr h => ?_)
  · obtain ⟨v, ps, rfl, _⟩ := h
    rfl
  obtain ⟨v, ps, rfl, hv, q⟩ := h
  obtain ⟨a, us, rfl, ha, au⟩ := hv.inv
  have hul : us.length = ps.length := by rw [au.length, List.length_map]
  refine ⟨_, PSs.nox (pss_cons (ps_asg (pe_tup (pa_cons pe_int (pa_cons pe_int pa_nil))) (pg_tup rfl (pgs_cons (pg_name (i := 1) sc_law_in_one.nd rfl (.inl rfl)) (pgs_cons (pg_name (i := 2) sc_law_in_one.nd rfl (.inl rfl)) pgs_nil))))
    (pss_cons (ps_for PassesOwn.never rfl (piT_ (K := K) rfl (pv 0)) (pgT_ (K := K) (n := 2) rfl rfl (pgs_cons (pg_name (i := 3) sc_law_in_one.nd rfl (.inl rfl)) (pgs_cons (pg_name (i := 4) sc_law_in_one.nd rfl (.inl rfl)) pgs_nil)))
      (pss_cons (ps_set (i := 2) sc_law_in_one.nd rfl (.inl rfl) (pe_callB (call_min2 rfl) (by rfl) B.min (by decide +kernel) (pa_cons (pv 2) (pa_cons (pe_op op_sub (pv 1) (pv 3)) pa_nil))))
    (pss_one (ps_set (i := 1) sc_law_in_one.nd rfl (.inl rfl) (pe_op op_add (pe_op op_sub (pv 1) (pv 3)) (pv 4))))))
    (pss_one (ps_ret (pe_tup (pa_cons (pe_op op_sub pe_int (pv 2)) (pa_cons (pe_op op_sub (pv 1) (pv 2)) pa_nil))))))), ?_⟩
  refine ⟨sz2, fun p0 np0 => ?_⟩
  refine ⟨p0, _, rfl, .inl (.inl upd_same), rfl, _, _, rfl, _, _, rfl, rfl, ?_⟩
  replace ha := Same.new (o := .tup [.int 0, .int 0]) np0 _ _ ha
  replace au := au.same (Same.new (o := .tup [.int 0, .int 0]) np0)
  have q := fun H' u sm => q H' u ((Same.new (o := .tup [.int 0, .int 0]) np0).trans sm)
  generalize upd H p0 (.tup [.int 0, .int 0]) = H at *
  refine ⟨_, rfl, a, rfl, ⟨us, .inl (.inl ha)⟩, ?_⟩
  refine for_tup (xs := us) (fun i σ H3 => H3 = H ∧ ∃ y z, σ = [some (.ref a), some (.int (dipf (ps.take i) 0 0).1), some (.int (dipf (ps.take i) 0 0).2), y, z]) ⟨rfl, none, none, rfl⟩ ?_ ?_ ?_
  · rintro i σ H3 hi ⟨rfl, _⟩
    exact .inl (.inl ha)
  · rintro i x σ H3 hx ⟨rfl, y, z, rfl⟩
    obtain ⟨d, hd, ad⟩ := au.get' hx
    rw [List.getElem?_map] at hd
    cases hp : ps[i]? with
    | none => rw [hp] at hd; cases hd
    | some r =>
      rw [hp] at hd
      cases hd
      obtain ⟨t, rfl, ht⟩ := ad.pair
      have e := dipf_take hp 0 0
      refine ⟨t, _, rfl, .inl (.inl ht), rfl, _, _, rfl, _, _, rfl, rfl, ?_⟩
      refine ⟨_, rfl, _, rfl, _, rfl, _, _, rfl, rfl, _, _, rfl, ?_⟩
      refine ⟨_, rfl, _, rfl, _, _, rfl, rfl, _, rfl, _, _, rfl, rfl, ?_⟩
      refine ⟨rfl, some (.int r.1), some (.int r.2), ?_⟩
      rw [e]
      rfl
  · rintro σ H3 ⟨rfl, y, z, rfl⟩
    rw [List.take_of_length_le (by omega)]
    refine ⟨_, rfl, 0, _, rfl, rfl, _, rfl, _, rfl, _, _, rfl, rfl, sz2, fun p np => ?_⟩
    exact q _ _ (Same.new np) (At.mkPair upd_same)

def spEnds : Sp := fun vs H Q _ => ∃ (v u : V) (ps qs : List (Int × Int)) (a b : Int), vs = [v, u, .int a] ∧ At H (dR ps) v ∧ At H (dR qs) u ∧ Ch a qs b ∧ b ≤ (ps.length : Int) ∧ Q (.int b) H
theorem ok_ends {f : Addr} {fd : FuncData} {j : Nat} (F : FnP K "_law_ends" s_law_ends f fd) (B : Bi mg) : FnOk P w K mg base CX0 (j + 1) f fd ["_law_row_here", "_law_stretches", "_law_at"] spEnds := by
  refine F.ok sc_law_ends (fun vs H Q E h => ?_) (fun cdv A outer s H vs Q E hr h => ?_)
  · obtain ⟨v, u, ps, qs, a, b, rfl, _⟩ := h
    rfl
  obtain ⟨v, u, ps, qs, a, b, rfl, hv, hu, hc, hb, q⟩ := h
  obtain ⟨ra, rv, rfl, hra, arv⟩ := hv.inv
  obtain ⟨ua, us, rfl, hua, au⟩ := hu.inv
  have hrl : rv.length = ps.length := by rw [arv.length, List.length_map]
  have hul : us.length = qs.length := by rw [au.length, List.length_map]
  refine ⟨_, PSs.nox (pss_cons (ps_for PassesOwn.never rfl (piT_ (K := K) rfl (pv 1)) (pgT_ (K := K) (n := 2) rfl rfl (pgs_cons (pg_name (i := 3) sc_law_ends.nd rfl (.inl rfl)) (pgs_cons (pg_name (i := 4) sc_law_ends.nd rfl (.inl rfl)) pgs_nil)))
      (pss_cons (ps_if (PW.pt (pw_or (pt_cmpR op_ne (pv 3) (pv 2) (nomark _)) (pw_or (pt_cmpR op_le (pv 4) (pv 3) (nomark _)) (pw_or1 (pt_cmpR op_gt (pv 4) (pe_callB (len_ (K := K) rfl) (by rfl) B.len PySem.boot_len (pa_cons (pv 0) pa_nil)) (nomark _)))))) (pss_one (ps_ret (pe_un un_neg pe_int))) pss_nil)
    (pss_one (ps_set (i := 2) sc_law_ends.nd rfl (.inl rfl) (pv 4)))))
    (pss_one (ps_ret (pv 2)))), ?_⟩
  refine ⟨_, rfl, ua, rfl, ⟨us, .inl (.inl hua)⟩, ?_⟩
  refine for_tup (xs := us) (fun i σ H3 => H3 = H ∧ ∃ z y3 y4, σ = [some (.ref ra), some (.ref ua), some (.int z), y3, y4] ∧ Ch z (qs.drop i) b) ⟨rfl, a, none, none, rfl, hc⟩ ?_ ?_ ?_
  · rintro i σ H3 hi ⟨rfl, _⟩
    exact .inl (.inl hua)
  · rintro i x σ H3 hx ⟨rfl, z, y3, y4, rfl, hz⟩
    obtain ⟨d, hd, ad⟩ := au.get' hx
    rw [List.getElem?_map] at hd
    cases hp : qs[i]? with
    | none => rw [hp] at hd; cases hd
    | some r =>
      rw [hp] at hd
      cases hd
      have hil : i < qs.length := (List.getElem?_eq_some_iff.mp hp).1
      have hg : qs[i] = r := by
        have := List.getElem?_eq_getElem hil
        rw [hp] at this
        exact (Option.some.inj this).symm
      rw [List.drop_eq_getElem_cons hil, hg] at hz
      obtain ⟨c1, c2, c3⟩ := hz
      have c4 := (Ch.le c3).1
      obtain ⟨t, rfl, ht⟩ := ad.pair
      refine ⟨t, _, rfl, .inl (.inl ht), rfl, _, _, rfl, _, _, rfl, rfl, ?_⟩
      refine ⟨_, rfl, _, rfl, rfl, _, rfl, iteNS (by rw [c1]) ?_⟩
      refine ⟨_, rfl, _, rfl, _, _, rfl, rfl, _, rfl, ?_⟩
      rw [decide_eq_false (show ¬ r.2 ≤ r.1 by omega)]
      refine iteF ?_
      refine ⟨_, rfl, _, rfl, ra, rv, rfl, .inr (.inl (.inl hra)), _, _, rfl, rfl, _, rfl, ?_⟩
      rw [decide_eq_false (show ¬ ((rv.length : Nat) : Int) < r.2 by omega)]
      refine iteF ?_
      exact ⟨_, rfl, rfl, r.2, _, _, rfl, c3⟩
  · rintro σ H3 ⟨rfl, z, y3, y4, rfl, hz⟩
    rw [List.drop_eq_nil_of_le (by omega)] at hz
    have ez : z = b := hz
    subst ez
    exact ⟨_, rfl, q⟩

def spRise : Sp := fun vs H Q _ => ∃ (o : Addr) (ns : List Int), vs = [.ref o] ∧ H o = some (.lst (ns.map V.int)) ∧ Ris ns ∧ ns.length ≤ 100000 ∧ ∀ H', Same H H' → Q (.bl true) H'
theorem ok_rise {f : Addr} {fd : FuncData} {j : Nat} (F : FnP K "_law_rise" s_law_rise f fd) (B : Bi mg) : FnOk P w K mg base CX0 (j + 1) f fd ["_law_numbers"] spRise := by
  refine F.ok sc_law_rise (fun vs H Q E h => ?_) (fun cdv A outer s H vs Q E hr h => ?_)
  · obtain ⟨o, ns, rfl, _⟩ := h
    rfl
  obtain ⟨o, ns, rfl, ho, hr2, hl, q⟩ := h
  refine ⟨_, PSs.nox (pss_one (ps_ret (pe_cmpR (eqD_ (K := K) hr.units rfl) (pe_lc (own := [("_law_k", 1)]) rfl sc_law_rise.nd (pi_range1 (by rfl) B.range (pa_cons (pe_op op_sub (pe_callB (len_ (K := K) rfl) (by rfl) B.len PySem.boot_len (pa_cons (pv 0) pa_nil)) pe_int) pa_nil)) (blkOk_by (N := ["_law_numbers", "_law_k"]) (sc := defScope s_law_rise) (by decide +kernel)) (fun _ _ _ _ _ => (pg_name (i := 1) sc_law_rise.nd rfl (.inl rfl))) (fun _ _ _ _ _ => (pts_one (pt_cmpR op_ge (pe_ix (ixL_ (K := K) rfl) (pv 0) (pv 1) (fun _ _ => rfl)) (pe_ix (ixL_ (K := K) rfl) (pv 0) (pe_op op_add (pv 1) pe_int) (fun _ _ => rfl)) (nomark _)))) (fun _ _ _ _ _ => (pv 1))) (pe_lst pa_nil) (nomark _)))), ?_⟩
  refine ⟨_, rfl, o, _, rfl, .inl (.inl (.inl ho)), _, 1, rfl, rfl, _, rfl, by rw [List.length_map]; omega, by rw [List.length_map]; omega, fun D hD => ?_⟩
  refine lc_range (lo := 0) (n := (((ns.map V.int).length : Int) - 1).toNat) (fun i H3 => Same H H3 ∧ H3 D = some (.lst [])) ⟨Same.new hD, upd_same⟩ ?_ ?_
  · rintro i H3 hi ⟨sm, eD⟩
    rw [List.length_map] at hi
    have h1 : i < ns.length := by omega
    have h2 : i + 1 < ns.length := by omega
    have g1 : ns[i]? = some ns[i] := List.getElem?_eq_getElem h1
    have g2 : ns[i + 1]? = some ns[i + 1] := List.getElem?_eq_getElem h2
    have lt := hr2.get i _ _ g1 g2
    refine ⟨rfl, ?_⟩
    refine ⟨_, rfl, _, rfl, o, _, _, .int ns[i], rfl, rfl, .inl (.inl (sm _ _ ho)), at_of (j := i) (by omega) (by rw [List.getElem?_map, g1]; rfl), ?_⟩
    refine ⟨_, rfl, _, rfl, _, 1, rfl, rfl, o, _, _, .int ns[i + 1], rfl, rfl, .inl (.inl (sm _ _ ho)), at_of (j := i + 1) (by omega) (by rw [List.getElem?_map, g2]; rfl), _, _, rfl, rfl, _, rfl, ?_⟩
    rw [decide_eq_false (show ¬ ns[i + 1] ≤ ns[i] by omega)]
    exact iteF ⟨sm, eD⟩
  · rintro H3 ⟨sm, eD⟩
    refine ⟨Nat.zero_le _, fun p np => ?_⟩
    refine ⟨.list [], .list [], .lst (.inl (.inl (Same.new np _ _ eD))) .nil, .lst (.inl (.inl upd_same)) .nil, rfl, rfl, ?_⟩
    exact q _ (sm.trans (Same.new np))

def spFlat : Sp := fun vs H Q _ => ∃ (v u : V) (ps : List (Int × Int)) (L : List (Nat × Nat)), vs = [v, u] ∧ At H (dR ps) v ∧ At H (dR (L.map cst)) u ∧ (∀ x ∈ ps, Nn x) ∧ (∀ x ∈ L, x.1 < x.2 ∧ x.2 ≤ ps.length) ∧ L.length ≤ 1000 ∧ ∀ H' o, Same H H' → H' o = some (.lst ((flatW ps L).map V.int)) → Q (.ref o) H'
theorem ok_flat {f : Addr} {fd : FuncData} (F : FnP K "_law_flat" s_law_flat f fd) (c_law_in_one : Cl P w K mg base 1 "_law_in_one" ["_law_row_here"] spInOne) : FnOk P w K mg base CX0 2 f fd ["_law_row_here", "_law_stretches"] spFlat := by
  refine F.ok sc_law_flat (fun vs H Q E h => ?_) (fun cdv A outer s H vs Q E hr h => ?_)
  · obtain ⟨v, u, ps, L, rfl, _⟩ := h
    rfl
  obtain ⟨v, u, ps, L, rfl, hv, hu, hN, hL, hl, q⟩ := h
  obtain ⟨ua, us, rfl, hua, au⟩ := hu.inv
  have hul : us.length = L.length := by rw [au.length, List.length_map, List.length_map]
  refine ⟨_, PSs.nox (pss_cons (ps_set (i := 2) sc_law_flat.nd rfl (.inl rfl) (pe_lst pa_nil))
    (pss_cons (ps_for PassesOwn.never rfl (piT_ (K := K) rfl (pv 1)) (pgT_ (K := K) (n := 2) rfl rfl (pgs_cons (pg_name (i := 3) sc_law_flat.nd rfl (.inl rfl)) (pgs_cons (pg_name (i := 4) sc_law_flat.nd rfl (.inl rfl)) pgs_nil)))
      (pss_one (ps_expr (pe_bm PySem.F.plainAttrs_list PySem.F.slot_list_extend PySem.F.type_list_extend mt_extendT (pv 2) (pa_cons (pe_cl c_law_in_one hr (by rfl) (pa_cons (pe_slice (slT_ (K := K) rfl) (pv 0) (po_some (pv 3)) (po_some (pv 4))) pa_nil)) pa_nil)))))
    (pss_one (ps_ret (pv 2))))), ?_⟩
  refine ⟨Nat.zero_le _, fun o no => ?_⟩
  have s1 := Same.new (o := .lst []) no
  refine ⟨_, rfl, ua, rfl, ⟨us, .inl (.inl (s1 _ _ hua))⟩, ?_⟩
  refine for_tup (xs := us) (fun i σ H3 => Same H H3 ∧ H3 o = some (.lst ((flatW ps (L.take i)).map V.int)) ∧ ∃ y3 y4, σ = [some v, some (.ref ua), some (.ref o), y3, y4]) ⟨s1, upd_same, none, none, rfl⟩ ?_ ?_ ?_
  · rintro i σ H3 hi ⟨sm, _⟩
    exact .inl (.inl (sm _ _ hua))
  · rintro i x σ H3 hx ⟨sm, eo, y3, y4, rfl⟩
    obtain ⟨d, hd, ad⟩ := au.get' hx
    rw [List.getElem?_map, List.getElem?_map] at hd
    cases hp : L[i]? with
    | none => rw [hp] at hd; cases hd
    | some r =>
      rw [hp] at hd
      cases hd
      have hrb := hL r (List.mem_of_getElem? hp)
      obtain ⟨t, rfl, ht⟩ := (ad.same sm).pair
      refine ⟨t, _, rfl, .inl (.inl ht), rfl, _, _, rfl, _, _, rfl, rfl, ?_⟩
      refine ⟨_, rfl, .inl ⟨rfl, _, .inl (.inl eo)⟩, v, rfl, _, rfl, _, rfl, _, rfl, _, rfl, slA_cut (i := r.1) (k := r.2) (hv.same sm) rfl rfl (by omega) (by rw [List.length_map]; omega) fun H4 w4 sm4 a4 => ?_⟩
      rw [← List.map_drop, ← List.map_take] at a4
      refine ⟨w4, seg ps r.1 r.2, rfl, a4, fun H5 w5 sm5 a5 => ?_⟩
      rw [inOne_wl (seg_nn hN _ _)] at a5
      obtain ⟨t5, rfl, ht5⟩ := a5.pair
      have eo5 := sm5 _ _ (sm4 _ _ eo)
      refine ⟨o, t5, _, _, rfl, rfl, eo5, ht5, Nat.le_of_lt (szM ?_), ?_⟩
      · rw [List.length_map, flatW_len, List.length_take]
        show 2 * min i L.length + 2 ≤ 1000000
        omega
      · refine ⟨Same.own (sm.trans (sm4.trans sm5)) no, ?_, _, _, rfl⟩
        rw [upd_same, List.take_add_one, hp, flatW_append, List.map_append]
        rfl
  · rintro σ H3 ⟨sm, eo, y3, y4, rfl⟩
    rw [List.take_of_length_le (by omega)] at eo
    exact ⟨_, rfl, q _ o sm eo⟩

theorem dEq_refl : ∀ (k : Nat) (d : D), Num k d → dEq d d = true
  | _, .i x, _ => by unfold dEq; exact decide_eq_true rfl
  | 0, .t _, h => h.elim
  | k + 1, .t l, h => by
    unfold dEq
    have go : ∀ r : List D, (∀ d ∈ r, Num k d) → dEqL r r = true := by
      intro r
      induction r with
      | nil => intro _; simp [dEqL]
      | cons x r ih =>
        intro hr
        unfold dEqL
        rw [dEq_refl k x (hr x (List.mem_cons_self ..)), ih fun y hy => hr y (List.mem_cons_of_mem _ hy)]
        rfl
    exact go l h.2
  | k, .n, h => by cases k <;> exact h.elim
  | k, .b _, h => by cases k <;> exact h.elim
  | k, .s _, h => by cases k <;> exact h.elim
def spRight : Sp := fun vs H Q _ => ∃ (v u : V) (ps : List (Int × Int)) (L : List (Nat × Nat)) (m : Nat) (LD : List (Nat × Nat)), vs = [v, u] ∧ At H (dR ps) v ∧ At H (dCut ps.length L m LD) u ∧ IsCut ps L m LD ∧ (∀ x ∈ ps, Nn x) ∧ ps.length ≤ 1000 ∧ ∀ H', Same H H' → Q (.bl true) H'
theorem ok_right {f : Addr} {fd : FuncData} (F : FnP K "_law_right" s_law_right f fd) (B : Bi mg) (c_law_ends : Cl P w K mg base 1 "_law_ends" ["_law_row_here", "_law_stretches", "_law_at"] spEnds) (c_law_rise : Cl P w K mg base 1 "_law_rise" ["_law_numbers"] spRise)
    (c_law_flat : Cl P w K mg base 2 "_law_flat" ["_law_row_here", "_law_stretches"] spFlat) (c_law_in_one : Cl P w K mg base 1 "_law_in_one" ["_law_row_here"] spInOne) : FnOk P w K mg base CX0 3 f fd ["_law_row_here", "_law_told"] spRight := by
  refine F.ok sc_law_right (fun vs H Q E h => ?_) (fun cdv A outer s H vs Q E hr h => ?_)
  · obtain ⟨v, u, ps, L, m, LD, rfl, _⟩ := h
    rfl
  obtain ⟨v, u, ps, L, m, LD, rfl, hv, hu, ct, hN, hl, q⟩ := h
  obtain ⟨up, md, dn⟩ := ct
  have hle := (up.le (Nat.zero_le _)).2
  have hm1 := md.1
  have hm2 := md.2.1
  have lenL := up.len (Nat.zero_le _)
  have lenD := dn.len (Nat.zero_le _)
  have memD := dn.mem (Nat.zero_le _)
  rw [trn_len, List.length_drop] at lenD memD
  have cov := cut_covers up md dn
  have ltL : ∀ x ∈ L, x.1 < x.2 ∧ x.2 ≤ ps.length := fun x hx => ⟨up.lt x hx, (up.mem (Nat.zero_le _) x hx).2⟩
  have ltD : ∀ x ∈ LD, x.1 < x.2 ∧ x.2 ≤ ps.length - m := fun x hx => ⟨dn.lt x hx, (memD x hx).2⟩
  have ec : dwn ps.length LD = (dwnN ps.length LD).map cst := dwn_cst fun x hx => by have := memD x hx; omega
  unfold dCut at hu
  obtain ⟨t, tv, rfl, ht, at15⟩ := id hu.inv
  obtain ⟨x0, r0, e0, ax0, at1⟩ := (by unfold AtL at at15; exact at15 : ∃ v r, tv = v :: r ∧ At H (dR (L.map cst)) v ∧ AtL H [dP (((lastE 0 L : Nat) : Int), (m : Int)), dR (dwn ps.length LD)] r)
  obtain ⟨x1, r1, e1, ax1, at2⟩ := (by unfold AtL at at1; exact at1 : ∃ v r, r0 = v :: r ∧ At H (dP (((lastE 0 L : Nat) : Int), (m : Int))) v ∧ AtL H [dR (dwn ps.length LD)] r)
  obtain ⟨x2, r2, e2, ax2, at3⟩ := (by unfold AtL at at2; exact at2 : ∃ v r, r1 = v :: r ∧ At H (dR (dwn ps.length LD)) v ∧ AtL H [] r)
  have e3 : r2 = [] := by unfold AtL at at3; exact at3
  subst e3 e2 e1 e0
  clear at15 at1 at2 at3 hu
  obtain ⟨t1, rfl, ht1⟩ := ax1.pair
  obtain ⟨ra, rv, rfl, hra, arv⟩ := id hv.inv
  have hrl : rv.length = ps.length := by rw [arv.length, List.length_map]
  refine ⟨_, PSs.nox (pss_cons (ps_asg (pv 1) (pg_tup rfl (pgs_cons (pg_name (i := 2) sc_law_right.nd rfl (.inl rfl)) (pgs_cons (pg_name (i := 3) sc_law_right.nd rfl (.inl rfl)) (pgs_cons (pg_name (i := 4) sc_law_right.nd rfl (.inl rfl)) pgs_nil)))))
    (pss_cons (ps_if (PW.pt (pw_or (pt_cmpR op_ne (pe_cl c_law_ends (hr.mono (by decide)) (by rfl) (pa_cons (pv 0) (pa_cons (pv 2) (pa_cons pe_int pa_nil)))) (pe_ix (ixT_ (K := K) rfl) (pv 3) pe_int (fun _ _ => rfl)) (nomark _)) (pw_or (pt_cmpR op_lt (pe_ix (ixT_ (K := K) rfl) (pv 3) pe_int (fun _ _ => rfl)) (pe_ix (ixT_ (K := K) rfl) (pv 3) pe_int (fun _ _ => rfl)) (nomark _)) (pw_or1 (pt_cmpR op_ne (pe_cl c_law_ends (hr.mono (by decide)) (by rfl) (pa_cons (pv 0) (pa_cons (pv 4) (pa_cons (pe_ix (ixT_ (K := K) rfl) (pv 3) pe_int (fun _ _ => rfl)) pa_nil)))) (pe_callB (len_ (K := K) rfl) (by rfl) B.len PySem.boot_len (pa_cons (pv 0) pa_nil)) (nomark _)))))) (pss_one (ps_ret pe_bl)) pss_nil)
    (pss_cons (ps_if (PW.pt (pw_or (pt_not (pt_val (pe_cl c_law_rise (hr.mono (by decide)) (by rfl) (pa_cons (pe_cl c_law_flat (hr.mono (by decide)) (by rfl) (pa_cons (pv 0) (pa_cons (pv 2) pa_nil))) pa_nil)))) (pw_or1 (pt_not (pt_val (pe_cl c_law_rise (hr.mono (by decide)) (by rfl) (pa_cons (pe_revL_ (K := K) rfl (pe_cl c_law_flat (hr.mono (by decide)) (by rfl) (pa_cons (pv 0) (pa_cons (pv 4) pa_nil)))) pa_nil))))))) (pss_one (ps_ret pe_bl)) pss_nil)
    (pss_cons (ps_asg (pe_cl c_law_in_one (hr.mono (by decide)) (by rfl) (pa_cons (pe_slice (slT_ (K := K) rfl) (pv 0) (po_some (pe_ix (ixT_ (K := K) rfl) (pv 3) pe_int (fun _ _ => rfl))) (po_some (pe_ix (ixT_ (K := K) rfl) (pv 3) pe_int (fun _ _ => rfl)))) pa_nil)) (pg_tup rfl (pgs_cons (pg_name (i := 5) sc_law_right.nd rfl (.inl rfl)) (pgs_cons (pg_name (i := 6) sc_law_right.nd rfl (.inl rfl)) pgs_nil))))
    (pss_cons (ps_if (pt_cmpR op_ne (pv 5) (pv 6) (nomark _)) (pss_one (ps_ret pe_bl)) pss_nil)
    (pss_cons (ps_set (i := 7) sc_law_right.nd rfl (.inl rfl) (pe_lst (pa_cons pe_int pa_nil)))
    (pss_cons (ps_for PassesOwn.never rfl (piT_ (K := K) rfl (pv 0)) (pgT_ (K := K) (n := 2) rfl rfl (pgs_cons (pg_name (i := 5) sc_law_right.nd rfl (.inl rfl)) (pgs_cons (pg_name (i := 6) sc_law_right.nd rfl (.inl rfl)) pgs_nil)))
      (pss_one (ps_expr (pe_bm PySem.F.plainAttrs_list PySem.F.slot_list_append PySem.F.type_list_append mt_append (pv 7) (pa_cons (pe_op op_add (pe_op op_sub (pe_ix (ixL_ (K := K) rfl) (pv 7) (pe_un un_neg pe_int) (fun _ _ => rfl)) (pv 5)) (pv 6)) pa_nil)))))
    (pss_cons (ps_set (i := 8) sc_law_right.nd rfl (.inr rfl) (pe_ix (ixL_ (K := K) rfl) (pv 7) (pe_ix (ixT_ (K := K) rfl) (pv 3) pe_int (fun _ _ => rfl)) (fun _ _ => rfl)))
    (pss_one (ps_ret (pe_and (pe_cmpR op_eq (pe_callB (max_ (K := K) rfl rfl) (by rfl) B.max (by decide +kernel) (pa_cons (pv 7) pa_nil)) (pv 8) (nomark _)) (pe_one (pe_cmpR (eqD_ (K := K) hr.units rfl) (pe_lc (own := [("_law_one", 9)]) rfl sc_law_right.nd (piL_ (K := K) rfl (pe_slice (slL_ (K := K) rfl) (pv 7) (po_some (pe_op op_add (pe_ix (ixT_ (K := K) rfl) (pv 3) pe_int (fun _ _ => rfl)) pe_int)) po_none)) (blkOk_by (N := ["_law_row_here", "_law_told", "_law_ups", "_law_middle", "_law_downs", "_law_need", "_law_leave", "_law_high", "_law_limit", "_law_one"]) (sc := defScope s_law_right) (by decide +kernel)) (fun _ _ _ _ _ => (pg_name (i := 9) sc_law_right.nd rfl (.inl rfl))) (fun _ _ _ _ _ => (pts_one (pt_cmpR op_ge (pv 9) (pv 8) (nomark _)))) (fun _ _ _ _ _ => (pv 9))) (pe_lst pa_nil) (nomark _)))))))))))))), ?_⟩
  refine ⟨_, rfl, t, _, rfl, .inl (.inl ht), rfl, _, _, rfl, _, _, rfl, _, _, rfl, rfl, ?_⟩
  -- the ends
  refine ⟨_, rfl, _, rfl, _, _, ps, L.map cst, 0, _, rfl, hv, ax0, up.chU, by omega, ?_⟩
  refine ⟨_, rfl, t1, _, 0, _, rfl, rfl, .inl (.inl ht1), rfl, rfl, _, rfl, iteNS rfl ?_⟩
  refine ⟨_, rfl, t1, _, 1, _, rfl, rfl, .inl (.inl ht1), rfl, _, rfl, t1, _, 0, _, rfl, rfl, .inl (.inl ht1), rfl, _, _, rfl, rfl, _, rfl, ?_⟩
  rw [decide_eq_false (show ¬ (m : Int) < ((lastE 0 L : Nat) : Int) by omega)]
  refine iteF ?_
  refine ⟨_, rfl, _, rfl, _, rfl, t1, _, 1, _, rfl, rfl, .inl (.inl ht1), rfl, _, _, ps, dwn ps.length LD, (m : Int), _, rfl, hv, ax2, cov, Int.le_refl _, ?_⟩
  refine ⟨_, rfl, ra, rv, rfl, .inr (.inl (.inl hra)), rfl, _, rfl, iteNS (by rw [hrl]) ?_⟩
  -- rising, falling
  refine ⟨_, rfl, _, rfl, _, _, ps, L, rfl, hv, ax0, hN, ltL, by omega, fun H1 o1 sm1 eo1 => ?_⟩
  refine ⟨o1, _, rfl, eo1, by rw [flatW_ups hN ltL]; exact up.rises, by rw [flatW_len]; omega, fun H2 sm2 => ?_⟩
  refine ⟨_, rfl, iteF ?_⟩
  have smA := sm1.trans sm2
  rw [ec] at ax2
  refine ⟨_, rfl, _, rfl, _, _, ps, dwnN ps.length LD, rfl, hv.same smA, ax2.same smA, hN, fun x hx => ?_, by unfold dwnN; rw [List.length_map, List.length_reverse]; omega, fun H3 o3 sm3 eo3 => ?_⟩
  · unfold dwnN at hx
    obtain ⟨y, hy, rfl⟩ := List.mem_map.mp hx
    have := ltD y (List.mem_reverse.mp hy)
    exact ⟨by dsimp only; omega, by dsimp only; omega⟩
  refine ⟨o3, _, rfl, .inl (.inl eo3), fun p4 np4 => ?_⟩
  have s4 := Same.new (o := .lst ((flatW ps (dwnN ps.length LD)).map V.int).reverse) np4
  refine ⟨p4, (flatW ps (dwnN ps.length LD)).reverse, rfl, by rw [upd_same, List.map_reverse], ?_, by rw [List.length_reverse, flatW_len]; unfold dwnN; rw [List.length_map, List.length_reverse]; omega, fun H5 sm5 => ?_⟩
  · rw [flatW_downs hN hm2 ltD, flatW_ups (trn_nn (nn_drop hN m)) fun x hx => ⟨(ltD x hx).1, by rw [trn_len, List.length_drop]; exact (ltD x hx).2⟩]
    exact dn.rises
  refine ⟨_, rfl, iteF ?_⟩
  have smB := smA.trans (sm3.trans (s4.trans sm5))
  replace hv := hv.same smB
  replace hra := smB _ _ hra
  replace ht1 := smB _ _ ht1
  replace arv := arv.same smB
  clear eo1 eo3 s4 np4 sm5 sm3 smA sm1 sm2 ax2 ax0 ax1 ht
  -- the middle
  refine ⟨_, rfl, _, rfl, t1, _, 0, _, rfl, rfl, .inl (.inl ht1), rfl, _, rfl, _, rfl, t1, _, 1, _, rfl, rfl, .inl (.inl ht1), rfl, _, rfl, slA_cut (i := lastE 0 L) (k := m) hv rfl rfl hm1 (by rw [List.length_map]; exact hm2) fun H6 w6 sm6 a6 => ?_⟩
  rw [← List.map_drop, ← List.map_take] at a6
  refine ⟨w6, seg ps (lastE 0 L) m, rfl, a6, fun H7 w7 sm7 a7 => ?_⟩
  rw [inOne_wl (seg_nn hN _ _)] at a7
  have eg : (wl (seg ps (lastE 0 L) m)).1 = (wl (seg ps (lastE 0 L) m)).2 := by
    have h1 := wl_gain (ps := seg ps (lastE 0 L) m)
    have h2 := seg_take (ps := ps) (s := lastE 0 L) (e := m) (k := m - lastE 0 L) (Nat.le_refl _)
    rw [List.take_of_length_le (by rw [seg_len hm2]; exact Nat.le_refl _), show lastE 0 L + (m - lastE 0 L) = m by omega, md.2.2.1] at h2
    omega
  obtain ⟨t7, rfl, ht7⟩ := a7.pair
  refine ⟨t7, _, rfl, .inl (.inl ht7), rfl, _, _, rfl, _, _, rfl, rfl, ?_⟩
  refine ⟨_, rfl, _, rfl, rfl, _, rfl, iteNS (by rw [eg]) ?_⟩
  have smC := sm6.trans sm7
  replace hra := smC _ _ hra
  replace ht1 := smC _ _ ht1
  replace arv := arv.same smC
  replace smB := smB.trans smC
  clear a6 a7 ht7 sm6 sm7 smC hv
  -- the heights
  refine ⟨sz1, fun o no => ?_⟩
  have s8 := Same.new (o := .lst [V.int 0]) no
  refine ⟨_, rfl, ra, rfl, ⟨rv, .inl (.inl (s8 _ _ hra))⟩, ?_⟩
  refine for_tup (xs := rv) (fun i σ H9 => Same H7 H9 ∧ H9 o = some (.lst (((List.range (i + 1)).map fun k => gn (ps.take k)).map V.int)) ∧ ∃ y5 y6, σ = [some (.ref ra), some (.ref t), some x0, some (.ref t1), some x2, y5, y6, some (.ref o), none, none]) ⟨s8, upd_same, _, _, rfl⟩ ?_ ?_ ?_
  · rintro i σ H9 hi ⟨sm9, _⟩
    exact .inl (.inl (sm9 _ _ hra))
  · rintro i x σ H9 hx ⟨sm9, eo9, y5, y6, rfl⟩
    obtain ⟨d, hd, ad⟩ := arv.get' hx
    rw [List.getElem?_map] at hd
    cases hp : ps[i]? with
    | none => rw [hp] at hd; cases hd
    | some r =>
      rw [hp] at hd
      cases hd
      have hil : i < ps.length := (List.getElem?_eq_some_iff.mp hp).1
      obtain ⟨t9, rfl, ht9⟩ := (ad.same sm9).pair
      refine ⟨t9, _, rfl, .inl (.inl ht9), rfl, _, _, rfl, _, _, rfl, rfl, ?_⟩
      have al : atI (((List.range (i + 1)).map fun k => gn (ps.take k)).map V.int) (-1) = some (.int (gn (ps.take i))) := by
        rw [map_range_succ, List.map_append]
        exact atI_last _ _
      refine ⟨_, rfl, .inl ⟨rfl, _, .inl (.inl eo9)⟩, _, rfl, 1, rfl, o, _, -1, _, rfl, rfl, .inl (.inl eo9), al, _, rfl, _, _, rfl, rfl, _, rfl, _, _, rfl, rfl, o, _, _, rfl, rfl, eo9, ?_, ?_⟩
      · rw [List.length_map, List.length_map, List.length_range]
        exact szM (by omega)
      · refine ⟨Same.own sm9 no, ?_, some (.int r.1), some (.int r.2), rfl⟩
        rw [upd_same, map_range_succ _ (i + 1), List.map_append]
        congr 3
        show [V.int (gn (ps.take i) - r.1 + r.2)] = [V.int (gn (ps.take (i + 1)))]
        rw [gn_take hp]
        congr 2
        omega
  · rintro σ H9 ⟨sm9, eo9, y5, y6, rfl⟩
    have eo9 : H9 o = some (.lst ((hts ps).map V.int)) := by
      rw [eo9, hrl]
      rfl
    replace ht1 := sm9 _ _ ht1
    refine ⟨_, rfl, _, rfl, t1, _, 0, _, rfl, rfl, .inl (.inl ht1), rfl, o, _, _, .int (Tl ps (lastE 0 L)), rfl, rfl, .inl (.inl eo9), at_of (j := lastE 0 L) rfl (by rw [List.getElem?_map, hts_get hle]; rfl), ?_⟩
    refine ⟨_, rfl, o, hts ps, rfl, .inl (.inl eo9), by rw [hts_len]; omega, fun M hM ub => ?_⟩
    have eM := hts_max up hM ub
    subst eM
    refine ⟨_, rfl, rfl, _, rfl, ?_⟩
    rw [decide_eq_true rfl]
    refine iteT ?_
    refine ⟨_, rfl, _, rfl, t1, _, 1, _, rfl, rfl, .inl (.inl ht1), rfl, _, 1, rfl, rfl, _, rfl, o, _, rfl, .inl (.inl eo9), fun p10 np10 => ?_⟩
    have ecut : cutV ((hts ps).map V.int) (some ((m : Int) + 1)) none = ((hts ps).drop (m + 1)).map V.int := by
      unfold cutV
      rw [HT.sIx_none, show HT.sIx ((hts ps).map V.int).length 0 (some ((m : Int) + 1)) = min (m + 1) ((hts ps).map V.int).length from HT.sIx_nat _ _ (m + 1), List.length_map, hts_len, Nat.min_eq_left (by omega), List.map_drop]
      exact List.take_of_length_le (by rw [List.length_drop, List.length_map, hts_len]; omega)
    have s10 := Same.new (o := .lst (cutV ((hts ps).map V.int) (some ((m : Int) + 1)) none)) np10
    refine ⟨p10, rfl, ⟨_, .inl (.inl upd_same)⟩, fun D hD => ?_⟩
    refine lc_list (xs := ((hts ps).drop (m + 1)).map V.int) (fun i H11 => Same (upd H9 p10 (.lst (cutV ((hts ps).map V.int) (some ((m : Int) + 1)) none))) H11 ∧ H11 D = some (.lst [])) ⟨Same.new hD, upd_same⟩ ?_ ?_ ?_
    · rintro i H11 hi ⟨sm11, _⟩
      rw [← ecut]
      exact .inl (.inl (sm11 _ _ upd_same))
    · rintro i x H11 hx ⟨sm11, eD⟩
      rw [List.getElem?_map, List.getElem?_drop] at hx
      have hkl : m + 1 + i ≤ ps.length := by
        rcases Nat.lt_or_ge ps.length (m + 1 + i) with z | z
        · rw [List.getElem?_eq_none (by rw [hts_len]; omega)] at hx; cases hx
        · exact z
      rw [hts_get hkl] at hx
      cases hx
      have fl := up.last.flat (m + 1 + i) (by omega) hkl
      have ne := md.2.2.2 (m + 1 + i) (by omega) hkl
      refine ⟨rfl, ?_⟩
      refine ⟨_, rfl, _, rfl, _, _, rfl, rfl, _, rfl, ?_⟩
      rw [decide_eq_false (show ¬ Tl ps (lastE 0 L) ≤ gn (ps.take (m + 1 + i)) by unfold Tl at *; omega)]
      exact iteF ⟨sm11, eD⟩
    · rintro H11 ⟨sm11, eD⟩
      refine ⟨Nat.zero_le _, fun p12 np12 => ?_⟩
      refine ⟨.list [], .list [], .lst (.inl (.inl (Same.new np12 _ _ eD))) .nil, .lst (.inl (.inl upd_same)) .nil, rfl, rfl, ?_⟩
      exact q _ (smB.trans (sm9.trans (s10.trans (sm11.trans (Same.new np12)))))

theorem bent_false {p r : List (Int × Int)} {x y : Int} : dEq (.t [dR p, dP (x, y), dR r]) (.t [dR p, dP (x, y + 1), dR r]) = false := by
  simp only [dEq, dEqL]
  rw [decide_eq_false (show ¬ y = y + 1 by omega)]
  simp
theorem ok_law {f : Addr} {fd : FuncData} (F : FnP K "law" s_law f fd) (B : Bi mg)
    (c_law_stream : Cl P w K mg base 1 "_law_stream" ["_law_script"] (spStream K)) (c_law_take : Cl P w K mg base 1 "_law_take" ["_law_stream_here", "_law_below"] spTake) (c_law_row : Cl P w K mg base 4 "_law_row" ["_law_stream_here", "_law_most"] spRow)
    (ccut : Cl P w K mg base 5 "cut" ["row"] spCut) (c_law_right : Cl P w K mg base 3 "_law_right" ["_law_row_here", "_law_told"] spRight) (cstretches_hold : Cl P w K mg base 6 "stretches_hold" ["row", "thing"] spHold) :
    FnOk P w K mg base CX0 7 f fd ["_law_script"] (spLaw K) := by
  refine F.ok sc_law (fun vs H Q E h => ?_) (fun cdv A outer s H vs Q E hr h => ?_)
  · obtain ⟨a, ns, rfl, _⟩ := h
    rfl
  obtain ⟨a, ns, rfl, hS, hn, q⟩ := h
  refine ⟨_, PSs.nox (pss_cons (ps_set (i := 1) sc_law.nd rfl (.inl rfl) (pe_cl c_law_stream (hr.mono (by decide)) (by rfl) (pa_cons (pv 0) pa_nil)))
    (pss_cons (ps_for PassesOwn.never rfl (pi_range1 (by rfl) B.range (pa_cons pe_int pa_nil)) (pg_name (i := 2) sc_law.nd rfl (.inl rfl))
      (pss_cons (ps_set (i := 3) sc_law.nd rfl (.inl rfl) (pe_cl c_law_row (hr.mono (by decide)) (by rfl) (pa_cons (pv 1) (pa_cons pe_int pa_nil))))
    (Evl.pss_cut (ps_if (pt_cmpR op_eq (pe_cl c_law_take (hr.mono (by decide)) (by rfl) (pa_cons (pv 1) (pa_cons pe_int pa_nil))) pe_int (nomark _)) (pss_one (ps_set (i := 3) sc_law.nd rfl (.inl rfl) (pe_slice (slT_ (K := K) rfl) (pe_op (repA_ (K := K) rfl) (pv 3) pe_int) po_none (po_some pe_int)))) pss_nil)
    (pss_cons (ps_set (i := 4) sc_law.nd rfl (.inl rfl) (pe_cl ccut (hr.mono (by decide)) (by rfl) (pa_cons (pv 3) pa_nil)))
    (pss_cons (ps_set (i := 5) sc_law.nd rfl (.inl rfl) (pe_tup (pa_cons (pe_ix (ixT_ (K := K) rfl) (pv 4) pe_int (fun _ _ => rfl)) (pa_cons (pe_tup (pa_cons (pe_ix (ixT_ (K := K) rfl) (pe_ix (ixT_ (K := K) rfl) (pv 4) pe_int (fun _ _ => rfl)) pe_int (fun _ _ => rfl)) (pa_cons (pe_op op_add (pe_ix (ixT_ (K := K) rfl) (pe_ix (ixT_ (K := K) rfl) (pv 4) pe_int (fun _ _ => rfl)) pe_int (fun _ _ => rfl)) pe_int) pa_nil))) (pa_cons (pe_ix (ixT_ (K := K) rfl) (pv 4) pe_int (fun _ _ => rfl)) pa_nil)))))
    (pss_one (ps_if (PW.pt (pw_or (pt_not (pt_val (pe_cl c_law_right (hr.mono (by decide)) (by rfl) (pa_cons (pv 3) (pa_cons (pv 4) pa_nil))))) (pw_or (pt_cmpR op_isnot_bl (pe_cl cstretches_hold (hr.mono (by decide)) (by rfl) (pa_cons (pv 3) (pa_cons (pv 4) pa_nil))) pe_bl (nomark _)) (pw_or1 (pt_cmpR op_isnot_bl (pe_cl cstretches_hold (hr.mono (by decide)) (by rfl) (pa_cons (pv 3) (pa_cons (pv 5) pa_nil))) pe_bl (nomark _)))))) (pss_one (ps_ret pe_bl)) pss_nil)))))))
    (pss_one (ps_ret pe_bl)))), ?_⟩
  refine ⟨_, rfl, a, ns, rfl, hS, hn, fun H1 s c sm1 S1 => ?_⟩
  refine ⟨6, rfl, by decide, by decide, ?_⟩
  refine for_range (lo := 0) (n := 6) (fun i σ H3 => Strm c H3 s ∧ ∃ y2 y3 y4 y5, σ = [some (.ref a), some (.ref s), y2, y3, y4, y5]) ⟨S1, none, none, none, none, rfl⟩ ?_ ?_
  · rintro i σ H3 hi ⟨S3, y2, y3, y4, y5, rfl⟩
    refine ⟨_, rfl, s, c, 60, rfl, S3, by decide, by decide, fun H4 r ps B4 S4 a4 b4 l4 => ?_⟩
    refine ⟨fun σ' H' => Strm c H' s ∧ ∃ r ps, σ' = [some (.ref a), some (.ref s), some (.int (0 + (i : Nat))), some r, y4, y5] ∧ At H' (dR ps) r ∧ (∀ x ∈ ps, Bd x) ∧ ps.length ≤ 400, ?_, ?_⟩
    · refine ⟨_, rfl, s, c, 4, rfl, S4, by decide, by decide, fun H5 z B5 S5 z0 z1 => ?_⟩
      replace a4 := a4.but S4 B5
      refine ⟨rfl, _, rfl, ite2 (fun e => ?_) (fun e => ?_)⟩
      · refine ⟨_, rfl, byC <| repA_at (l := ps.map dP) a4 (by decide) (by decide) (by rw [List.length_map]; omega) fun H6 u6 sm6 a6 => ?_⟩
        refine ⟨400, rfl, slA_take (k := 400) a6 rfl fun H7 u7 sm7 a7 => ?_⟩
        rw [rep_map, ← List.map_take] at a7
        exact ⟨(S5.up sm6).up sm7, u7, _, rfl, a7, fun x hx => b4 x (rep_mem (List.mem_of_mem_take hx)), List.length_take_le ..⟩
      · exact ⟨S5, r, ps, rfl, a4, b4, by omega⟩
    rintro σ' H5 ⟨S5, r, ps, rfl, a5, b5, l5⟩
    have hN : ∀ x ∈ ps, Nn x := fun x hx => (b5 x hx).nn
    refine ⟨_, rfl, r, ps, rfl, a5, by omega, fun H6 u L m LD sm6 ct a6 => ?_⟩
    have lenL := ct.1.len (Nat.zero_le _)
    have lenD := ct.2.2.len (Nat.zero_le _)
    rw [trn_len, List.length_drop] at lenD
    have a6' := a6
    unfold dCut at a6'
    obtain ⟨t, tv, rfl, ht, at15⟩ := id a6'.inv
    obtain ⟨x0, r0, e0, ax0, at1⟩ := (by unfold AtL at at15; exact at15 : ∃ v r, tv = v :: r ∧ At H6 (dR (L.map cst)) v ∧ AtL H6 [dP (((lastE 0 L : Nat) : Int), (m : Int)), dR (dwn ps.length LD)] r)
    obtain ⟨x1, r1, e1, ax1, at2⟩ := (by unfold AtL at at1; exact at1 : ∃ v r, r0 = v :: r ∧ At H6 (dP (((lastE 0 L : Nat) : Int), (m : Int))) v ∧ AtL H6 [dR (dwn ps.length LD)] r)
    obtain ⟨x2, r2, e2, ax2, at3⟩ := (by unfold AtL at at2; exact at2 : ∃ v r, r1 = v :: r ∧ At H6 (dR (dwn ps.length LD)) v ∧ AtL H6 [] r)
    have e3 : r2 = [] := by unfold AtL at at3; exact at3
    subst e3 e2 e1 e0
    clear at15 at1 at2 at3 a6'
    obtain ⟨t1, rfl, ht1⟩ := ax1.pair
    refine ⟨_, rfl, t, _, 0, _, rfl, rfl, .inl (.inl ht), rfl, ?_⟩
    refine ⟨_, rfl, t, _, 1, _, rfl, rfl, .inl (.inl ht), rfl, t1, _, 0, _, rfl, rfl, .inl (.inl ht1), rfl, ?_⟩
    refine ⟨_, rfl, t, _, 1, _, rfl, rfl, .inl (.inl ht), rfl, t1, _, 1, _, rfl, rfl, .inl (.inl ht1), rfl, _, 1, rfl, rfl, sz2, fun p7 np7 => ?_⟩
    have s7 := Same.new (o := .tup [V.int ((lastE 0 L : Nat) : Int), V.int ((m : Int) + 1)]) np7
    refine ⟨_, rfl, t, _, 2, _, rfl, rfl, .inl (.inl (s7 _ _ ht)), rfl, sz3, fun p8 np8 => ?_⟩
    have s8 := Same.new (o := .tup [x0, V.ref p7, x2]) np8
    have ab : At (upd (upd H6 p7 (.tup [V.int ((lastE 0 L : Nat) : Int), V.int ((m : Int) + 1)])) p8 (.tup [x0, V.ref p7, x2])) (.t [dR (L.map cst), dP (((lastE 0 L : Nat) : Int), (m : Int) + 1), dR (dwn ps.length LD)]) (.ref p8) :=
      At.tup upd_same (AtL.cons ((ax0.same s7).same s8) (AtL.cons ((At.mkPair (H := upd H6 p7 (.tup [V.int ((lastE 0 L : Nat) : Int), V.int ((m : Int) + 1)])) upd_same).same s8) (AtL.cons ((ax2.same s7).same s8) AtL.nil)))
    have smA := s7.trans s8
    have smB := sm6.trans smA
    refine ⟨_, rfl, _, rfl, r, .ref t, ps, L, m, LD, rfl, a5.same smB, a6.same smA, ct, hN, by omega, fun H9 sm9 => ?_⟩
    refine ⟨_, rfl, iteF ?_⟩
    have smC := smB.trans sm9
    have smD := smA.trans sm9
    have nm : Num 3 (dCut ps.length L m LD) := num_cut (by rw [List.length_map]; omega) (by rw [dwn_len]; omega)
    refine ⟨_, rfl, _, rfl, r, .ref t, ps, dCut ps.length L m LD, rfl, a5.same smC, a6.same smD, nm, by omega, fun H10 L2 m2 LD2 sm10 ct2 => ?_⟩
    obtain ⟨q1, q2, q3⟩ := ct2.uniq ct
    subst q1 q2 q3
    rw [dEq_refl 3 _ nm]
    refine ⟨true, true, rfl, rfl, _, rfl, iteNS rfl ?_⟩
    have smE := smC.trans sm10
    refine ⟨_, rfl, _, rfl, r, .ref p8, ps, _, rfl, a5.same smE, (ab.same sm9).same sm10, num_cut (by rw [List.length_map]; omega) (by rw [dwn_len]; omega), by omega, fun H11 L3 m3 LD3 sm11 ct3 => ?_⟩
    obtain ⟨q1, q2, q3⟩ := ct3.uniq ct
    subst q1 q2 q3
    have ef : dEq (dCut ps.length L3 m3 LD3) (.t [dR (L3.map cst), dP (((lastE 0 L3 : Nat) : Int), (m3 : Int) + 1), dR (dwn ps.length LD3)]) = false := bent_false
    rw [ef]
    refine ⟨false, false, rfl, rfl, _, rfl, iteNS rfl ?_⟩
    exact ⟨S5.up (smE.trans sm11), _, _, _, _, rfl⟩
  · rintro σ H3 ⟨S3, y2, y3, y4, y5, rfl⟩
    exact q _
end
/-! ### the head -/
def d_law_take : He.DefD := ⟨("_law_take", none), "_law_take", "_law_take", defArgs s_law_take, defBody s_law_take, defScope s_law_take, [], []⟩
def d_law_number : He.DefD := ⟨("_law_number", none), "_law_number", "_law_number", defArgs s_law_number, defBody s_law_number, defScope s_law_number, [], []⟩
def d_law_pair : He.DefD := ⟨("_law_pair", none), "_law_pair", "_law_pair", defArgs s_law_pair, defBody s_law_pair, defScope s_law_pair, [], []⟩
def d_law_row : He.DefD := ⟨("_law_row", none), "_law_row", "_law_row", defArgs s_law_row, defBody s_law_row, defScope s_law_row, [], []⟩
def d_law_stream : He.DefD := ⟨("_law_stream", none), "_law_stream", "_law_stream", defArgs s_law_stream, defBody s_law_stream, defScope s_law_stream, [], []⟩
def d_turned_row : He.DefD := ⟨("turned_row", none), "turned_row", "turned_row", defArgs s_turned_row, defBody s_turned_row, defScope s_turned_row, [], []⟩
def d_heights : He.DefD := ⟨("heights", none), "heights", "heights", defArgs s_heights, defBody s_heights, defScope s_heights, [], []⟩
def d_dips : He.DefD := ⟨("dips", none), "dips", "dips", defArgs s_dips, defBody s_dips, defScope s_dips, [], []⟩
def d_first_above : He.DefD := ⟨("first_above", none), "first_above", "first_above", defArgs s_first_above, defBody s_first_above, defScope s_first_above, [], []⟩
def d_up_end : He.DefD := ⟨("up_end", none), "up_end", "up_end", defArgs s_up_end, defBody s_up_end, defScope s_up_end, [], []⟩
def d_ups_of : He.DefD := ⟨("ups_of", none), "ups_of", "ups_of", defArgs s_ups_of, defBody s_ups_of, defScope s_ups_of, [], []⟩
def d_middle_end : He.DefD := ⟨("middle_end", none), "middle_end", "middle_end", defArgs s_middle_end, defBody s_middle_end, defScope s_middle_end, [], []⟩
def d_downs_of : He.DefD := ⟨("downs_of", none), "downs_of", "downs_of", defArgs s_downs_of, defBody s_downs_of, defScope s_downs_of, [], []⟩
def d_cut : He.DefD := ⟨("cut", none), "cut", "cut", defArgs s_cut, defBody s_cut, defScope s_cut, [], []⟩
def d_is_whole : He.DefD := ⟨("is_whole", none), "is_whole", "is_whole", defArgs s_is_whole, defBody s_is_whole, defScope s_is_whole, [], []⟩
def d_same : He.DefD := ⟨("same", none), "same", "same", defArgs s_same, defBody s_same, defScope s_same, [], []⟩
def d_stretches_hold : He.DefD := ⟨("stretches_hold", none), "stretches_hold", "stretches_hold", defArgs s_stretches_hold, defBody s_stretches_hold, defScope s_stretches_hold, [], []⟩
def d_law_in_one : He.DefD := ⟨("_law_in_one", none), "_law_in_one", "_law_in_one", defArgs s_law_in_one, defBody s_law_in_one, defScope s_law_in_one, [], []⟩
def d_law_ends : He.DefD := ⟨("_law_ends", none), "_law_ends", "_law_ends", defArgs s_law_ends, defBody s_law_ends, defScope s_law_ends, [], []⟩
def d_law_rise : He.DefD := ⟨("_law_rise", none), "_law_rise", "_law_rise", defArgs s_law_rise, defBody s_law_rise, defScope s_law_rise, [], []⟩
def d_law_flat : He.DefD := ⟨("_law_flat", none), "_law_flat", "_law_flat", defArgs s_law_flat, defBody s_law_flat, defScope s_law_flat, [], []⟩
def d_law_right : He.DefD := ⟨("_law_right", none), "_law_right", "_law_right", defArgs s_law_right, defBody s_law_right, defScope s_law_right, [], []⟩
def d_law : He.DefD := ⟨("law", none), "law", "law", defArgs s_law, defBody s_law, defScope s_law, [], []⟩
def fn : List He.DefD := [d_law_take, d_law_number, d_law_pair, d_law_row, d_law_stream, d_turned_row, d_heights, d_dips, d_first_above, d_up_end, d_ups_of, d_middle_end, d_downs_of, d_cut, d_is_whole, d_same, d_stretches_hold, d_law_in_one, d_law_ends, d_law_rise, d_law_flat, d_law_right, d_law]
def fa : List He.Fa := [.glo "_law_take", .glo "_law_number", .glo "_law_pair", .glo "_law_row", .glo "_law_stream", .glo "turned_row", .glo "heights", .glo "dips", .glo "first_above", .glo "up_end", .glo "ups_of", .glo "middle_end", .glo "downs_of", .glo "cut", .glo "is_whole", .glo "same", .glo "stretches_hold", .glo "_law_in_one", .glo "_law_ends", .glo "_law_rise", .glo "_law_flat", .glo "_law_right", .glo "law", .free "len", .free "max", .free "min", .free "range", .free "tuple", .free "abs", .free "isinstance", .free "bool", .free "str", .free "int", .free "sum", .free "zip", .free "enumerate", .free "all", .free "any", .free "sorted", .free "repr", .free "list", .free "reversed"]
abbrev R : PySem.W.OpenRow := PySem.W.OpenLaw.row PySem.Challenge.rw_stintpurse_k12_whole_cuts_as_pairs
abbrev hk : PySem.W.Hook := He.hookD 4 fa fn
def ob (s : PySem.W.SharedT) : He.AlD := He.obsDG 4 fa fn (HandSHeadRun.getT s)
theorem ob_eq (s : PySem.W.SharedT) : ob s = hk.obs s.abs := He.obsDG_eq (HandSHeadRun.getT_eq s)
theorem run (w : World) : HandSHeadRun.RunEq R (PySem.W.view R.prog [26]) hk ob 4000 ["is_whole", "same", "turned_row", "heights", "dips", "first_above", "up_end", "ups_of", "middle_end", "downs_of", "cut", "stretches_hold", "_law_stream", "_law_take", "_law_number", "_law_pair", "_law_row", "_law_in_one", "_law_ends", "_law_rise", "_law_flat", "_law_right"] w := by
  intro os
  kernel_rfl
theorem facts {P : Program} {w : World} {K : PySem.W.Frag} {h : Heap} {mg : Str → Option Value} {f : Addr} (X : K.In h) (G : h.Ns mainGlobals mg) (hfa : mg ("law" : Str) = some (.ref f)) (c : He.SaysD fa fn K) :
    ∃ fd : FuncData, (∀ (s : Shared) (v : Value), BindsTo s fd ⟨[v], []⟩ [("_law_script", v)]) ∧ ∀ base : Heap, K.In base → base.Ns mainGlobals mg → FnOk P w K mg base CX0 7 f fd ["_law_script"] (spLaw K) := by
  obtain ⟨fd_law_take, F_law_take⟩ := c.def_ 0 (d := d_law_take) rfl
  have g_law_take := He.glo_ok X G (c.fact 0 (f := .glo "_law_take") rfl)
  have b_law_take : Binds K fd_law_take ["_law_stream_here", "_law_below"] [] := FunD.bindsN F_law_take fun _ _ _ _ _ _ us hl => match us, hl with | [_, _], _ => rfl
  obtain ⟨fd_law_number, F_law_number⟩ := c.def_ 1 (d := d_law_number) rfl
  have g_law_number := He.glo_ok X G (c.fact 1 (f := .glo "_law_number") rfl)
  have b_law_number : Binds K fd_law_number ["_law_stream_here"] [] := FunD.bindsN F_law_number fun _ _ _ _ _ _ us hl => match us, hl with | [_], _ => rfl
  obtain ⟨fd_law_pair, F_law_pair⟩ := c.def_ 2 (d := d_law_pair) rfl
  have g_law_pair := He.glo_ok X G (c.fact 2 (f := .glo "_law_pair") rfl)
  have b_law_pair : Binds K fd_law_pair ["_law_stream_here"] [] := FunD.bindsN F_law_pair fun _ _ _ _ _ _ us hl => match us, hl with | [_], _ => rfl
  obtain ⟨fd_law_row, F_law_row⟩ := c.def_ 3 (d := d_law_row) rfl
  have g_law_row := He.glo_ok X G (c.fact 3 (f := .glo "_law_row") rfl)
  have b_law_row : Binds K fd_law_row ["_law_stream_here", "_law_most"] [] := FunD.bindsN F_law_row fun _ _ _ _ _ _ us hl => match us, hl with | [_, _], _ => rfl
  obtain ⟨fd_law_stream, F_law_stream⟩ := c.def_ 4 (d := d_law_stream) rfl
  have g_law_stream := He.glo_ok X G (c.fact 4 (f := .glo "_law_stream") rfl)
  have b_law_stream : Binds K fd_law_stream ["_law_script"] [] := FunD.bindsN F_law_stream fun _ _ _ _ _ _ us hl => match us, hl with | [_], _ => rfl
  obtain ⟨fdturned_row, Fturned_row⟩ := c.def_ 5 (d := d_turned_row) rfl
  have gturned_row := He.glo_ok X G (c.fact 5 (f := .glo "turned_row") rfl)
  have bturned_row : Binds K fdturned_row ["row"] [] := FunD.bindsN Fturned_row fun _ _ _ _ _ _ us hl => match us, hl with | [_], _ => rfl
  obtain ⟨fdheights, Fheights⟩ := c.def_ 6 (d := d_heights) rfl
  have gheights := He.glo_ok X G (c.fact 6 (f := .glo "heights") rfl)
  have bheights : Binds K fdheights ["row"] [] := FunD.bindsN Fheights fun _ _ _ _ _ _ us hl => match us, hl with | [_], _ => rfl
  obtain ⟨fddips, Fdips⟩ := c.def_ 7 (d := d_dips) rfl
  have gdips := He.glo_ok X G (c.fact 7 (f := .glo "dips") rfl)
  have bdips : Binds K fddips ["row"] [] := FunD.bindsN Fdips fun _ _ _ _ _ _ us hl => match us, hl with | [_], _ => rfl
  obtain ⟨fdfirst_above, Ffirst_above⟩ := c.def_ 8 (d := d_first_above) rfl
  have gfirst_above := He.glo_ok X G (c.fact 8 (f := .glo "first_above") rfl)
  have bfirst_above : Binds K fdfirst_above ["tall", "start"] [] := FunD.bindsN Ffirst_above fun _ _ _ _ _ _ us hl => match us, hl with | [_, _], _ => rfl
  obtain ⟨fdup_end, Fup_end⟩ := c.def_ 9 (d := d_up_end) rfl
  have gup_end := He.glo_ok X G (c.fact 9 (f := .glo "up_end") rfl)
  have bup_end : Binds K fdup_end ["tall", "deep", "start"] [] := FunD.bindsN Fup_end fun _ _ _ _ _ _ us hl => match us, hl with | [_, _, _], _ => rfl
  obtain ⟨fdups_of, Fups_of⟩ := c.def_ 10 (d := d_ups_of) rfl
  have gups_of := He.glo_ok X G (c.fact 10 (f := .glo "ups_of") rfl)
  have bups_of : Binds K fdups_of ["row"] [] := FunD.bindsN Fups_of fun _ _ _ _ _ _ us hl => match us, hl with | [_], _ => rfl
  obtain ⟨fdmiddle_end, Fmiddle_end⟩ := c.def_ 11 (d := d_middle_end) rfl
  have gmiddle_end := He.glo_ok X G (c.fact 11 (f := .glo "middle_end") rfl)
  have bmiddle_end : Binds K fdmiddle_end ["row", "start"] [] := FunD.bindsN Fmiddle_end fun _ _ _ _ _ _ us hl => match us, hl with | [_, _], _ => rfl
  obtain ⟨fddowns_of, Fdowns_of⟩ := c.def_ 12 (d := d_downs_of) rfl
  have gdowns_of := He.glo_ok X G (c.fact 12 (f := .glo "downs_of") rfl)
  have bdowns_of : Binds K fddowns_of ["row", "start"] [] := FunD.bindsN Fdowns_of fun _ _ _ _ _ _ us hl => match us, hl with | [_, _], _ => rfl
  obtain ⟨fdcut, Fcut⟩ := c.def_ 13 (d := d_cut) rfl
  have gcut := He.glo_ok X G (c.fact 13 (f := .glo "cut") rfl)
  have bcut : Binds K fdcut ["row"] [] := FunD.bindsN Fcut fun _ _ _ _ _ _ us hl => match us, hl with | [_], _ => rfl
  obtain ⟨fdis_whole, Fis_whole⟩ := c.def_ 14 (d := d_is_whole) rfl
  have gis_whole := He.glo_ok X G (c.fact 14 (f := .glo "is_whole") rfl)
  have bis_whole : Binds K fdis_whole ["thing"] [] := FunD.bindsN Fis_whole fun _ _ _ _ _ _ us hl => match us, hl with | [_], _ => rfl
  obtain ⟨fdsame, Fsame⟩ := c.def_ 15 (d := d_same) rfl
  have gsame := He.glo_ok X G (c.fact 15 (f := .glo "same") rfl)
  have bsame : Binds K fdsame ["told", "thing"] [] := FunD.bindsN Fsame fun _ _ _ _ _ _ us hl => match us, hl with | [_, _], _ => rfl
  obtain ⟨fdstretches_hold, Fstretches_hold⟩ := c.def_ 16 (d := d_stretches_hold) rfl
  have gstretches_hold := He.glo_ok X G (c.fact 16 (f := .glo "stretches_hold") rfl)
  have bstretches_hold : Binds K fdstretches_hold ["row", "thing"] [] := FunD.bindsN Fstretches_hold fun _ _ _ _ _ _ us hl => match us, hl with | [_, _], _ => rfl
  obtain ⟨fd_law_in_one, F_law_in_one⟩ := c.def_ 17 (d := d_law_in_one) rfl
  have g_law_in_one := He.glo_ok X G (c.fact 17 (f := .glo "_law_in_one") rfl)
  have b_law_in_one : Binds K fd_law_in_one ["_law_row_here"] [] := FunD.bindsN F_law_in_one fun _ _ _ _ _ _ us hl => match us, hl with | [_], _ => rfl
  obtain ⟨fd_law_ends, F_law_ends⟩ := c.def_ 18 (d := d_law_ends) rfl
  have g_law_ends := He.glo_ok X G (c.fact 18 (f := .glo "_law_ends") rfl)
  have b_law_ends : Binds K fd_law_ends ["_law_row_here", "_law_stretches", "_law_at"] [] := FunD.bindsN F_law_ends fun _ _ _ _ _ _ us hl => match us, hl with | [_, _, _], _ => rfl
  obtain ⟨fd_law_rise, F_law_rise⟩ := c.def_ 19 (d := d_law_rise) rfl
  have g_law_rise := He.glo_ok X G (c.fact 19 (f := .glo "_law_rise") rfl)
  have b_law_rise : Binds K fd_law_rise ["_law_numbers"] [] := FunD.bindsN F_law_rise fun _ _ _ _ _ _ us hl => match us, hl with | [_], _ => rfl
  obtain ⟨fd_law_flat, F_law_flat⟩ := c.def_ 20 (d := d_law_flat) rfl
  have g_law_flat := He.glo_ok X G (c.fact 20 (f := .glo "_law_flat") rfl)
  have b_law_flat : Binds K fd_law_flat ["_law_row_here", "_law_stretches"] [] := FunD.bindsN F_law_flat fun _ _ _ _ _ _ us hl => match us, hl with | [_, _], _ => rfl
  obtain ⟨fd_law_right, F_law_right⟩ := c.def_ 21 (d := d_law_right) rfl
  have g_law_right := He.glo_ok X G (c.fact 21 (f := .glo "_law_right") rfl)
  have b_law_right : Binds K fd_law_right ["_law_row_here", "_law_told"] [] := FunD.bindsN F_law_right fun _ _ _ _ _ _ us hl => match us, hl with | [_, _], _ => rfl
  obtain ⟨fd, F⟩ := c.def_ 22 (d := d_law) rfl
  have e := hfa.symm.trans (He.glo_ok X G (c.fact 22 (f := .glo "law") rfl))
  cases e
  have b := FunD.bindsA (ps := ["_law_script"]) F fun _ _ _ _ _ _ us hl => match us, hl with | [_], _ => rfl
  have B : Bi mg := ⟨He.free_ok X G (c.fact 23 (f := .free "len") rfl), He.free_ok X G (c.fact 24 (f := .free "max") rfl), He.free_ok X G (c.fact 25 (f := .free "min") rfl), He.free_ok X G (c.fact 26 (f := .free "range") rfl), He.free_ok X G (c.fact 27 (f := .free "tuple") rfl), He.free_ok X G (c.fact 28 (f := .free "abs") rfl), He.free_ok X G (c.fact 29 (f := .free "isinstance") rfl), He.free_ok X G (c.fact 30 (f := .free "bool") rfl), He.free_ok X G (c.fact 31 (f := .free "str") rfl), He.free_ok X G (c.fact 32 (f := .free "int") rfl), He.free_ok X G (c.fact 33 (f := .free "sum") rfl), He.free_ok X G (c.fact 34 (f := .free "zip") rfl), He.free_ok X G (c.fact 35 (f := .free "enumerate") rfl), He.free_ok X G (c.fact 36 (f := .free "all") rfl), He.free_ok X G (c.fact 37 (f := .free "any") rfl), He.free_ok X G (c.fact 38 (f := .free "sorted") rfl), He.free_ok X G (c.fact 39 (f := .free "repr") rfl), He.free_ok X G (c.fact 40 (f := .free "list") rfl), He.free_ok X G (c.fact 41 (f := .free "reversed") rfl)⟩
  refine ⟨fd, fun s v => b s [v] rfl, fun base _ _ => ?_⟩
  have c_law_take := Cl.mk (P := P) (w := w) (base := base) (mg := mg) ⟨_, _, g_law_take, F_law_take.kp, b_law_take, ok_take F_law_take B⟩
  have c_law_number := Cl.mk (P := P) (w := w) (base := base) (mg := mg) ⟨_, _, g_law_number, F_law_number.kp, b_law_number, ok_number F_law_number c_law_take⟩
  have c_law_pair := Cl.mk (P := P) (w := w) (base := base) (mg := mg) ⟨_, _, g_law_pair, F_law_pair.kp, b_law_pair, ok_pair F_law_pair B c_law_take c_law_number⟩
  have c_law_stream := Cl.mk (P := P) (w := w) (base := base) (mg := mg) ⟨_, _, g_law_stream, F_law_stream.kp, b_law_stream, ok_stream F_law_stream B⟩
  have c_law_row := Cl.mk (P := P) (w := w) (base := base) (mg := mg) ⟨_, _, g_law_row, F_law_row.kp, b_law_row, ok_row F_law_row B c_law_take c_law_pair⟩
  have cturned_row := Cl.mk (P := P) (w := w) (base := base) (mg := mg) ⟨_, _, gturned_row, Fturned_row.kp, bturned_row, ok_turned_row (k := 0) Fturned_row B⟩
  have cheights := Cl.mk (P := P) (w := w) (base := base) (mg := mg) ⟨_, _, gheights, Fheights.kp, bheights, ok_heights (k := 0) Fheights B⟩
  have cdips := Cl.mk (P := P) (w := w) (base := base) (mg := mg) ⟨_, _, gdips, Fdips.kp, bdips, ok_dips (k := 0) Fdips B cheights⟩
  have cfirst_above := Cl.mk (P := P) (w := w) (base := base) (mg := mg) ⟨_, _, gfirst_above, Ffirst_above.kp, bfirst_above, ok_first_above (j := 0) Ffirst_above B⟩
  have cup_end := Cl.mk (P := P) (w := w) (base := base) (mg := mg) ⟨_, _, gup_end, Fup_end.kp, bup_end, ok_up_end Fup_end B cfirst_above⟩
  have cups_of := Cl.mk (P := P) (w := w) (base := base) (mg := mg) ⟨_, _, gups_of, Fups_of.kp, bups_of, ok_ups_of Fups_of B cheights cdips cup_end⟩
  have cmiddle_end := Cl.mk (P := P) (w := w) (base := base) (mg := mg) ⟨_, _, gmiddle_end, Fmiddle_end.kp, bmiddle_end, ok_middle_end Fmiddle_end B cheights⟩
  have cdowns_of := Cl.mk (P := P) (w := w) (base := base) (mg := mg) ⟨_, _, gdowns_of, Fdowns_of.kp, bdowns_of, ok_downs_of Fdowns_of B cups_of cturned_row⟩
  have ccut := Cl.mk (P := P) (w := w) (base := base) (mg := mg) ⟨_, _, gcut, Fcut.kp, bcut, ok_cut Fcut B cups_of cmiddle_end cdowns_of⟩
  have cis_whole := Cl.mk (P := P) (w := w) (base := base) (mg := mg) ⟨_, _, gis_whole, Fis_whole.kp, bis_whole, ok_is_whole (k := 0) Fis_whole B⟩
  have csame := Cl.mk (P := P) (w := w) (base := base) (mg := mg) ⟨_, _, gsame, Fsame.kp, bsame, ok_same Fsame B gsame cis_whole 3⟩
  have cstretches_hold := Cl.mk (P := P) (w := w) (base := base) (mg := mg) ⟨_, _, gstretches_hold, Fstretches_hold.kp, bstretches_hold, ok_stretches_hold Fstretches_hold ccut csame⟩
  have c_law_in_one := Cl.mk (P := P) (w := w) (base := base) (mg := mg) ⟨_, _, g_law_in_one, F_law_in_one.kp, b_law_in_one, ok_in_one (k := 0) F_law_in_one B⟩
  have c_law_ends := Cl.mk (P := P) (w := w) (base := base) (mg := mg) ⟨_, _, g_law_ends, F_law_ends.kp, b_law_ends, ok_ends (j := 0) F_law_ends B⟩
  have c_law_rise := Cl.mk (P := P) (w := w) (base := base) (mg := mg) ⟨_, _, g_law_rise, F_law_rise.kp, b_law_rise, ok_rise (j := 0) F_law_rise B⟩
  have c_law_flat := Cl.mk (P := P) (w := w) (base := base) (mg := mg) ⟨_, _, g_law_flat, F_law_flat.kp, b_law_flat, ok_flat F_law_flat c_law_in_one⟩
  have c_law_right := Cl.mk (P := P) (w := w) (base := base) (mg := mg) ⟨_, _, g_law_right, F_law_right.kp, b_law_right, ok_right F_law_right B c_law_ends c_law_rise c_law_flat c_law_in_one⟩
  exact ok_law F B c_law_stream c_law_take c_law_row ccut c_law_right cstretches_hold
end Lw
open PySem PySem.W PySem.Calls PyProof.Rows
set_option maxHeartbeats 0 in
theorem PySem.Challenge.cw_stintpurse_k12_whole_cuts_as_pairs_holds : PySem.Challenge.rw_stintpurse_k12_whole_cuts_as_pairs.Holds := by
  w_on; o_law
  refine HandSHeadRun.head_any (r := OpenLaw.row PySem.Challenge.rw_stintpurse_k12_whole_cuts_as_pairs) (q := view (OpenLaw.row PySem.Challenge.rw_stintpurse_k12_whole_cuts_as_pairs).prog [26]) (H := Lw.hk) (ob := Lw.ob) (M := 4000) (loose := ["is_whole", "same", "turned_row", "heights", "dips", "first_above", "up_end", "ups_of", "middle_end", "downs_of", "cut", "stretches_hold", "_law_stream", "_law_take", "_law_number", "_law_pair", "_law_row", "_law_in_one", "_law_ends", "_law_rise", "_law_flat", "_law_right"]) (d := HandSHeadRun.topDef (OpenLaw.row PySem.Challenge.rw_stintpurse_k12_whole_cuts_as_pairs).prog 26) (kwd := []) Lw.ob_eq
    (by kernel_rfl) (fun s => by kernel_rfl) Lw.run (by kernel_rfl) (by kernel_rfl) (by kernel_rfl) (by rfl) (by first | assumption | decide +kernel) (by decide +kernel) ⟨rfl, rfl, rfl, rfl, rfl, by decide +kernel⟩ ?hw ?hc
  case hw => w_witness2
  case hc =>
    refine L2.walk_ofE (l := PySem.Challenge.rw_stintpurse_k12_whole_cuts_as_pairs) (n := 63) (k := 7) (x := "_law_script") (CX := L2.CX0) rfl (by decide) (by kernel_rfl) ⟨rfl, by decide, by decide⟩ ?F (fun _ _ _ _ z => z)
    intro w mg fa h Y G hmg0
    obtain ⟨K, KX, c⟩ := Y
    have hmg : mg ("law" : PySem.Str) = some (.ref fa) := by
      have e : (HandSHeadRun.topDef (OpenLaw.row PySem.Challenge.rw_stintpurse_k12_whole_cuts_as_pairs).prog 26).name = ("law" : PySem.Str) := by kernel_rfl
      rw [← e]
      exact hmg0
    obtain ⟨fd, hb, hF⟩ := Lw.facts (P := (PySem.Challenge.rw_stintpurse_k12_whole_cuts_as_pairs).prog) (w := w) KX G hmg c
    exact ⟨K, fd, Lw.spLaw K, KX, hb, fun H a ns hl _ hS => ⟨a, ns, rfl, hS, hl, fun _ => rfl⟩, hF⟩
