import PyProof.Rows.All
import Wide.All
import OpenK.AllK
import Wide.FinOn
import HandS.ForMost
import HandS.IsInst
import HandS.Flow
import HandS.WideBits
import HandS.Defaults
import HandS.Exc
import HandS.ExcOwn
import HandS.TryOnly
import HandS.TryMany
import HandS.WordsExc
import HandS.ExcIs
import PySem.Challenge.RW_discwright_k08_weak_and_steady_cells
set_option Elab.async false
set_option linter.all false
set_option maxRecDepth 100000
set_option maxHeartbeats 4000000
namespace Dw
open PySem PySem.Spec PyProof.Rows L2
/-! ### sizes -/
theorem line_le {n : Nat} (h : n ≤ 16777216) : n ≤ sizeLine := by rw [sizeLine_eq]; exact h
theorem line_lt {n : Nat} (h : n < 16777216) : n < sizeLine := by rw [sizeLine_eq]; exact h
/-! ### heaps -/
theorem same_new {H : Hp} {p : Addr} (h : H p = none) (o : HO) : Same H (upd H p o) := fun b u q => by rw [upd_ne (ne_of_none q h)]; exact q
/-- all but P stands as it was -/
def SameB (P : Addr) (H H' : Hp) : Prop := ∀ b o, b ≠ P → H b = some o → H' b = some o
theorem SameB.refl (P : Addr) (H : Hp) : SameB P H H := fun _ _ _ h => h
theorem SameB.trans {P : Addr} {H H1 H2 : Hp} (a : SameB P H H1) (b : SameB P H1 H2) : SameB P H H2 := fun x o n h => b x o n (a x o n h)
theorem Same.b {P : Addr} {H H' : Hp} (a : Same H H') : SameB P H H' := fun x o _ h => a x o h
theorem sameB_upd {P : Addr} {H : Hp} (o : HO) : SameB P H (upd H P o) := fun b u n q => by rw [upd_ne n]; exact q
/-- a ghost heap without P stands in what was changed at P alone -/
theorem Same.but {P : Addr} {G H H' : Hp} (g : Same G H) (n : G P = none) (s : SameB P H H') : Same G H' := fun b o q => s b o (ne_of_none q n) (g b o q)
theorem same_upd {G H : Hp} {p : Addr} {o : HO} (g : Same G H) : Same (upd G p o) (upd H p o) := fun b u q => by
  by_cases e : b = p
  · subst e
    rw [upd_same] at q ⊢
    exact q
  · rw [upd_ne e] at q ⊢
    exact g b u q
theorem same_none {G H : Hp} {p : Addr} (g : Same G H) (h : H p = none) : G p = none := by
  cases e : G p with
  | none => rfl
  | some o => rw [g p o e] at h; cases h
theorem upd_none {G : Hp} {p P : Addr} {o : HO} (n : G P = none) (ne : P ≠ p) : upd G p o P = none := by rw [upd_ne ne]; exact n
/-! ### the script -/
/-- the pool at p: the script's numbers at q, and four numbers -/
def PoolL (q : Addr) (a b c d : Int) : HO := .lst [.ref q, .int a, .int b, .int c, .int d]
def Pool (H : Hp) (p q : Addr) : Prop := ∃ (ns : List Int) (a b c d : Int), H p = some (PoolL q a b c d) ∧ H q = some (.lst (ns.map V.int)) ∧ 0 ≤ a ∧ ns.length ≤ 63
theorem Pool.same {H H' : Hp} {p q : Addr} (h : Pool H p q) (s : Same H H') : Pool H' p q := by
  obtain ⟨ns, a, b, c, d, h1, h2, h3⟩ := h
  exact ⟨ns, a, b, c, d, s _ _ h1, s _ _ h2, h3⟩
theorem Pool.there {H : Hp} {p q : Addr} (h : Pool H p q) : ∃ o, H p = some o := by
  obtain ⟨ns, a, b, c, d, h1, _⟩ := h
  exact ⟨_, h1⟩
theorem Pool.ne {H : Hp} {p q r : Addr} (h : Pool H p q) (n : H r = none) : p ≠ r := by
  obtain ⟨o, e⟩ := h.there
  exact ne_of_none e n
theorem Pool.ne2 {H : Hp} {p q r : Addr} (h : Pool H p q) (n : H r = none) : q ≠ r := by
  obtain ⟨ns, a, b, c, d, h1, h2, _⟩ := h
  exact ne_of_none h2 n
theorem pool_ne {H : Hp} {p q : Addr} {a b c d : Int} {ns : List Int} (h1 : H p = some (PoolL q a b c d)) (h2 : H q = some (.lst (ns.map V.int))) : q ≠ p := by
  refine ne_of h2 h1 fun e => ?_
  unfold PoolL at e
  injection e with e
  cases ns with
  | nil => cases e
  | cons x r => rw [List.map_cons] at e; injection e with e _; cases e
/-- a pool's numbers written anew -/
theorem Pool.put {H : Hp} {p q : Addr} {a b c d a' b' c' d' : Int} {ns : List Int} (h1 : H p = some (PoolL q a b c d)) (h2 : H q = some (.lst (ns.map V.int))) (h3 : 0 ≤ a') (h4 : ns.length ≤ 63) : Pool (upd H p (PoolL q a' b' c' d')) p q :=
  ⟨ns, a', b', c', d', upd_same, by rw [upd_ne (pool_ne h1 h2)]; exact h2, h3, h4⟩
/-! ### what the shared defs promise -/
def spPool (K : PySem.W.Frag) : Sp := fun vs H Q _ => ∃ (a : Addr) (ns : List Int), vs = [.ref a] ∧ SqL K H a (ns.map V.int) ∧ ns.length ≤ 63 ∧ ∀ p q H', Same H H' → H p = none → H q = none → Pool H' p q → Q (.ref p) H'
def spSpread : Sp := fun vs H Q _ => ∃ n : Int, vs = [.int n] ∧ ∀ m : Int, Q (.int m) H
def spDraw : Sp := fun vs H Q _ => ∃ (p q : Addr) (m : Int), vs = [.ref p, .int m] ∧ Pool H p q ∧ 0 < m ∧ m < 1073741824 ∧ ∀ r H', 0 ≤ r → r < m → Pool H' p q → SameB p H H' → Q (.int r) H'
/-- a def of whole numbers -/
def spI1 (C : Int → Prop) (g : Int → Int) : Sp := fun vs H Q _ => ∃ n : Int, vs = [.int n] ∧ C n ∧ Q (.int (g n)) H
def spI2 (C : Int → Int → Prop) (g : Int → Int → Int) : Sp := fun vs H Q _ => ∃ n m : Int, vs = [.int n, .int m] ∧ C n m ∧ Q (.int (g n m)) H

/-! ### rules by a stronger reading -/
section
variable {X : Cx}
theorem OpR.imp {f : Value → Value → Sem Value} {r r' : R2} (h : OpR X f r) (i : ∀ x y H Q, r' x y H Q → r x y H Q) : OpR X f r' := fun pins s σ H x y v u Q I rx ry q => h pins s σ H x y v u Q I rx ry (i _ _ _ _ q)
theorem CallR.imp {f : Value} {r r' : List V → Hp → VK → Prop} (h : CallR X f r) (i : ∀ xs H Q, r' xs H Q → r xs H Q) : CallR X f r' := fun pins s σ H xs us Q I r q => h pins s σ H xs us Q I r (i _ _ _ q)
theorem IxR.imp {r r' : R2} (h : IxR X r) (i : ∀ x y H Q, r' x y H Q → r x y H Q) : IxR X r' := fun a b pins s σ H x y v u Q I rx ry q => h a b pins s σ H x y v u Q I rx ry (i _ _ _ _ q)
theorem MtR.imp {id : String} {r r' : V → List V → Hp → VK → Prop} (h : MtR X id r) (i : ∀ x xs H Q, r' x xs H Q → r x xs H Q) : MtR X id r' := fun pins s σ H x xs v us Q I rx ry q => h pins s σ H x xs v us Q I rx ry (i _ _ _ _ q)
theorem SlR.imp {r r' : V → Option Int → Option Int → Hp → VK → Prop} (h : SlR X r) (i : ∀ x lo hi H Q, r' x lo hi H Q → r x lo hi H Q) : SlR X r' := fun pins s σ H x v vl vu lo hi sl Q I rx hs pl pu q => h pins s σ H x v vl vu lo hi sl Q I rx hs pl pu (i _ _ _ _ _ q)
theorem PE.imp {e : Expr} {t t' : TE} (h : PE X e t) (i : ∀ σ H Q, t' σ H Q → t σ H Q) : PE X e t' := ⟨fun pins s σ H Q I q => h.run pins s σ H Q I (i _ _ _ q)⟩
theorem PT.imp {e : Expr} {t t' : TT} (h : PT X e t) (i : ∀ σ H Q, t' σ H Q → t σ H Q) : PT X e t' := ⟨fun pins s σ H Q I q => h.run pins s σ H Q I (i _ _ _ q)⟩
theorem PS.imp {e : Stmt} {t t' : TS} (h : PS X e t) (i : ∀ D σ H, t' D σ H → t D σ H) : PS X e t' := ⟨fun pins s σ H D I q => h.run pins s σ H D I (i _ _ _ q)⟩
theorem PSet.imp {r r' : TSet} (h : PSet X r) (i : ∀ o k v H Q, r' o k v H Q → r o k v H Q) : PSet X r' := fun pins s σ H o k v ov iv u Q I ro ri rv q => h pins s σ H o k v ov iv u Q I ro ri rv (i _ _ _ _ _ q)
/-! ### lists of ints -/
def IL (ns : List Int) : HO := .lst (ns.map V.int)
theorem IL_inj {a b : List Int} : (IL a = IL b) = (a = b) := by
  apply propext
  constructor
  · intro h
    unfold IL at h
    injection h with h
    exact List.map_inj_right (fun x y e => V.int.inj e) |>.mp h
  · intro h
    rw [h]
def toInts : List V → Option (List Int)
  | [] => some []
  | .int i :: r => (toInts r).map (i :: ·)
  | _ => none
theorem toInts_eq : ∀ {xs : List V} {ns : List Int}, toInts xs = some ns → xs = ns.map V.int
  | [], ns, h => by
    unfold toInts at h
    cases h
    rfl
  | .int i :: r, ns, h => by
    unfold toInts at h
    cases e : toInts r with
    | none => rw [e] at h; cases h
    | some ms =>
      rw [e] at h
      cases h
      rw [List.map_cons, toInts_eq e]
  | .non :: _, _, h => by unfold toInts at h; cases h
  | .bl _ :: _, _, h => by unfold toInts at h; cases h
  | .str _ :: _, _, h => by unfold toInts at h; cases h
  | .byt _ :: _, _, h => by unfold toInts at h; cases h
  | .flt _ :: _, _, h => by unfold toInts at h; cases h
  | .ref _ :: _, _, h => by unfold toInts at h; cases h
  | .ty _ :: _, _, h => by unfold toInts at h; cases h
theorem toInts_cons {i : Int} {r : List V} : toInts (.int i :: r) = (toInts r).map (i :: ·) := rfl
theorem toInts_nil : toInts [] = some [] := rfl
def isL : Option HO → Bool
  | some (.lst _) => true
  | _ => false
theorem isL_IL {ns : List Int} : isL (some (IL ns)) = true := rfl
theorem isL_lst {xs : List V} : isL (some (.lst xs)) = true := rfl
theorem isL_of {o : Option HO} (h : isL o = true) : ∃ xs, o = some (.lst xs) := by
  cases o with
  | none => cases h
  | some u =>
    cases u with
    | lst xs => exact ⟨xs, rfl⟩
    | _ => cases h
def rCatI : R2 := fun x y H Q => ∃ l b xs zs, x = .ref l ∧ y = .ref b ∧ H l = some (IL xs) ∧ H b = some (IL zs) ∧ xs.length + zs.length ≤ sizeLine ∧ ∀ p, H p = none → Q (.ref p) (upd H p (IL (xs ++ zs)))
theorem op_catI : OpR X (binaryOp .Add) rCatI := OpR.imp op_cat fun x y H Q h => by
  obtain ⟨l, b, xs, zs, e1, e2, h1, h2, h3, q⟩ := h
  exact ⟨l, b, _, _, e1, e2, h1, h2, by rw [List.length_map, List.length_map]; exact h3, fun p hp => by rw [← List.map_append]; exact q p hp⟩
def rep (k : Int) (xs : List Int) : List Int := (List.replicate k.toNat xs).flatten
theorem rep_one (k : Int) (x : Int) : rep k [x] = List.replicate k.toNat x := by
  unfold rep
  generalize k.toNat = n
  induction n with
  | zero => rfl
  | succ n ih => rw [List.replicate_succ, List.flatten_cons, ih, List.replicate_succ]; rfl
def rRepI : R2 := fun x y H Q => ∃ l k xs, x = .ref l ∧ y = .int k ∧ H l = some (IL xs) ∧ (-(2 ^ 63) ≤ k ∧ k < 2 ^ 63 ∧ xs.length * k.toNat ≤ sizeLine) ∧ ∀ p, H p = none → Q (.ref p) (upd H p (IL (rep k xs)))
theorem map_rep (k : Nat) (xs : List Int) : (List.replicate k (xs.map V.int)).flatten = (List.replicate k xs).flatten.map V.int := by
  induction k with
  | zero => rfl
  | succ n ih => rw [List.replicate_succ, List.flatten_cons, ih, List.replicate_succ, List.flatten_cons, List.map_append]
theorem op_repI : OpR X (binaryOp .Mult) rRepI := OpR.imp op_rep fun x y H Q h => by
  obtain ⟨l, k, xs, e1, e2, h1, ⟨h2, h3, h4⟩, q⟩ := h
  exact ⟨l, k, _, e1, e2, h1, h2, h3, by rw [List.length_map]; exact h4, fun p hp => by rw [map_rep]; exact q p hp⟩
def rIxI : R2 := fun x y H Q => ∃ p ns i, x = .ref p ∧ y = .int i ∧ H p = some (IL ns) ∧ (0 ≤ i ∧ i < (ns.length : Int)) ∧ Q (.int (ns.getD i.toNat 0)) H
theorem atI_int {ns : List Int} {i : Int} (h0 : 0 ≤ i) (h1 : i < (ns.length : Int)) : atI (ns.map V.int) i = some (.int (ns.getD i.toNat 0)) := by
  have hk : i.toNat < ns.length := by omega
  have e : i = ((i.toNat : Nat) : Int) := by omega
  have q : atI (ns.map V.int) ((i.toNat : Nat) : Int) = some (.int (ns.getD i.toNat 0)) := atI_nat (by
    rw [List.getElem?_map, List.getElem?_eq_getElem hk, List.getD_eq_getElem?_getD, List.getElem?_eq_getElem hk]
    rfl)
  rw [← e] at q
  exact q
theorem ix_listI : IxR X rIxI := IxR.imp ix_list fun x y H Q h => by
  obtain ⟨p, ns, i, e1, e2, h1, ⟨h2, h3⟩, q⟩ := h
  exact ⟨p, _, i, _, e1, e2, .of h1, atI_int h2 h3, q⟩
def rIxH : R2 := fun x y H Q => ∃ p xs i v, x = .ref p ∧ y = .int i ∧ H p = some (.lst xs) ∧ atI xs i = some v ∧ Q v H
theorem ix_listH : IxR X rIxH := IxR.imp ix_list fun x y H Q h => by
  obtain ⟨p, xs, i, v, e1, e2, h1, h2, q⟩ := h
  exact ⟨p, _, i, _, e1, e2, .of h1, h2, q⟩
def rIxTH : R2 := fun x y H Q => ∃ p xs i v, x = .ref p ∧ y = .int i ∧ H p = some (.tup xs) ∧ atI xs i = some v ∧ Q v H
theorem ix_tupH : IxR X rIxTH := IxR.imp ix_tup fun x y H Q h => by
  obtain ⟨p, xs, i, v, e1, e2, h1, h2, q⟩ := h
  exact ⟨p, _, i, _, e1, e2, .of h1, h2, q⟩
def cutI (xs : List Int) (lo hi : Option Int) : List Int := (xs.drop (HT.sIx xs.length 0 lo)).take (HT.sIx xs.length xs.length hi - HT.sIx xs.length 0 lo)
theorem cutV_int (ns : List Int) (lo hi : Option Int) : cutV (ns.map V.int) lo hi = (cutI ns lo hi).map V.int := by
  unfold cutV cutI
  rw [List.length_map, List.map_take, List.map_drop]
def rSlI : V → Option Int → Option Int → Hp → VK → Prop := fun x lo hi H Q => ∃ a ns, x = .ref a ∧ H a = some (IL ns) ∧ ∀ p, H p = none → Q (.ref p) (upd H p (IL (cutI ns lo hi)))
theorem sl_listI : SlR X rSlI := SlR.imp sl_list fun x lo hi H Q h => by
  obtain ⟨a, ns, e1, h1, q⟩ := h
  exact ⟨a, _, e1, .of h1, fun p hp => by rw [cutV_int]; exact q p hp⟩
def rSlS (K : PySem.W.Frag) : V → Option Int → Option Int → Hp → VK → Prop := fun x lo hi H Q => ∃ a ns, x = .ref a ∧ SqL K H a (ns.map V.int) ∧ ∀ p, H p = none → Q (.ref p) (upd H p (IL (cutI ns lo hi)))
theorem sl_listS : SlR X (rSlS X.K) := SlR.imp sl_list fun x lo hi H Q h => by
  obtain ⟨a, ns, e1, h1, q⟩ := h
  exact ⟨a, _, e1, h1, fun p hp => by rw [cutV_int]; exact q p hp⟩
def rLenI : List V → Hp → VK → Prop := fun xs H Q => ∃ p ns, xs = [.ref p] ∧ H p = some (IL ns) ∧ Q (.int (ns.length : Int)) H
theorem call_lenI : CallR X (.builtin "len") rLenI := CallR.imp call_len_seq fun xs H Q h => by
  obtain ⟨p, ns, e, h1, q⟩ := h
  exact ⟨p, _, e, .inl (.of h1), by rw [List.length_map]; exact q⟩
def rLenH : List V → Hp → VK → Prop := fun xs H Q => ∃ p ys, xs = [.ref p] ∧ H p = some (.lst ys) ∧ Q (.int (ys.length : Int)) H
theorem call_lenH : CallR X (.builtin "len") rLenH := CallR.imp call_len_seq fun xs H Q h => by
  obtain ⟨p, ns, e, h1, q⟩ := h
  exact ⟨p, _, e, .inl (.of h1), q⟩
def rLenTH : List V → Hp → VK → Prop := fun xs H Q => ∃ p ys, xs = [.ref p] ∧ H p = some (.tup ys) ∧ Q (.int (ys.length : Int)) H
theorem call_lenTH : CallR X (.builtin "len") rLenTH := CallR.imp call_len_seq fun xs H Q h => by
  obtain ⟨p, ns, e, h1, q⟩ := h
  exact ⟨p, _, e, .inr (.of h1), q⟩
def rListI : List V → Hp → VK → Prop := fun xs H Q => ∃ p ns, xs = [.ref p] ∧ H p = some (IL ns) ∧ ∀ l, H l = none → Q (.ref l) (upd H l (IL ns))
theorem call_listI : CallR X (.type "list") rListI := CallR.imp call_list_of fun xs H Q h => by
  obtain ⟨p, ns, e, h1, q⟩ := h
  exact ⟨p, _, e, .inl (.of h1), q⟩
def rListS (K : PySem.W.Frag) : List V → Hp → VK → Prop := fun xs H Q => ∃ p ns, xs = [.ref p] ∧ SqL K H p (ns.map V.int) ∧ ∀ l, H l = none → Q (.ref l) (upd H l (IL ns))
theorem call_listS : CallR X (.type "list") (rListS X.K) := CallR.imp call_list_of fun xs H Q h => by
  obtain ⟨p, ns, e, h1, q⟩ := h
  exact ⟨p, _, e, .inl h1, q⟩
def rIntI : List V → Hp → VK → Prop := fun xs H Q => ∃ i, xs = [.int i] ∧ Q (.int i) H
theorem call_intI : CallR X (.type "int") rIntI := CallR.imp call_int1 fun xs H Q h => .inl h
def rIntB : List V → Hp → VK → Prop := fun xs H Q => ∃ k, xs = [.bl k] ∧ Q (.int (if k = true then 1 else 0)) H
theorem call_intB : CallR X (.type "int") rIntB := CallR.imp call_int1 fun xs H Q h => .inr h
def rSumI : List V → Hp → VK → Prop := fun xs H Q => ∃ p ns, xs = [.ref p] ∧ H p = some (IL ns) ∧ Q (.int ns.sum) H
theorem cr_sumI (hc : X.calm = true) : CallR X (.builtin "sum") rSumI := CallR.imp (cr_sum hc) fun xs H Q h => by
  obtain ⟨p, ns, e, h1, q⟩ := h
  exact ⟨p, _, e, .of h1, q⟩
def rAppendI : V → List V → Hp → VK → Prop := fun x vs H Q => ∃ l xs y, x = .ref l ∧ vs = [.int y] ∧ H l = some (IL xs) ∧ xs.length < sizeLine ∧ Q .non (upd H l (IL (xs ++ [y])))
theorem mt_appendI : MtR X "list.append" rAppendI := MtR.imp mt_append fun x vs H Q h => by
  obtain ⟨l, xs, y, e1, e2, h1, h2, q⟩ := h
  refine ⟨l, _, _, e1, e2, h1, by rw [List.length_map]; exact h2, ?_⟩
  have e : xs.map V.int ++ [V.int y] = (xs ++ [y]).map V.int := by rw [List.map_append]; rfl
  rw [e]
  exact q
def rExtendI : V → List V → Hp → VK → Prop := fun x vs H Q => ∃ l b xs zs, x = .ref l ∧ vs = [.ref b] ∧ H l = some (IL xs) ∧ H b = some (IL zs) ∧ xs.length + zs.length ≤ sizeLine ∧ Q .non (upd H l (IL (xs ++ zs)))
theorem mt_extendI : MtR X "list.extend" rExtendI := MtR.imp mt_extend fun x vs H Q h => by
  obtain ⟨l, b, xs, zs, e1, e2, h1, h2, h3, q⟩ := h
  exact ⟨l, b, _, _, e1, e2, h1, h2, by rw [List.length_map, List.length_map]; exact h3, by rw [← List.map_append]; exact q⟩
def rSetI : TSet := fun o i v H Q => ∃ p ns k y, o = .ref p ∧ i = .int k ∧ v = .int y ∧ H p = some (IL ns) ∧ (0 ≤ k ∧ k < (ns.length : Int)) ∧ Q (upd H p (IL (ns.set k.toNat y)))
theorem ixN_nn {n : Nat} {k : Int} (h0 : 0 ≤ k) (h1 : k < (n : Int)) : ixN n k = some k.toNat := by
  unfold ixN
  rw [if_pos h0, if_pos h1]
theorem set_listI : PSet X rSetI := PSet.imp set_list fun o i v H Q h => by
  obtain ⟨p, ns, k, y, e1, e2, e3, h1, ⟨h2, h3⟩, q⟩ := h
  refine ⟨p, _, k, k.toNat, e1, e2, h1, ixN_nn h2 (by rw [List.length_map]; exact h3), ?_⟩
  rw [e3, ← List.map_set]
  exact q
/-- xs[k] = v of any list at a written place -/
def rSetH : TSet := fun o i v H Q => ∃ p xs k, o = .ref p ∧ i = .int k ∧ H p = some (.lst xs) ∧ (0 ≤ k ∧ k < (xs.length : Int)) ∧ Q (upd H p (.lst (xs.set k.toNat v)))
theorem set_listH : PSet X rSetH := PSet.imp set_list fun o i v H Q h => by
  obtain ⟨p, xs, k, e1, e2, h1, ⟨h2, h3⟩, q⟩ := h
  exact ⟨p, _, k, k.toNat, e1, e2, h1, ixN_nn h2 h3, q⟩
/-! ### == of lists of ints -/
theorem dp_ints {K : PySem.W.Frag} {H : Hp} : ∀ ns : List Int, DpAll K H (ns.map V.int) (ns.map PyData.int)
  | [] => .nil
  | n :: r => .cons (.int n) (dp_ints r)
theorem dp_IL {K : PySem.W.Frag} {H : Hp} {p : Addr} {ns : List Int} (h : H p = some (IL ns)) : Dp K H (.ref p) (.list (ns.map PyData.int)) := .lst (.of h) (dp_ints ns)
theorem eqvAll_ints : ∀ ns ms : List Int, PyData.eqvAll (ns.map PyData.int) (ms.map PyData.int) = decide (ns = ms)
  | [], [] => by
    show PyData.eqvAll [] [] = _
    rw [PyData.eqvAll]
    rfl
  | [], _ :: _ => by
    show PyData.eqvAll [] (_ :: _) = _
    rw [PyData.eqvAll, decide_eq_false (fun e => by cases e)]
  | _ :: _, [] => by
    show PyData.eqvAll (_ :: _) [] = _
    rw [PyData.eqvAll, decide_eq_false (fun e => by cases e)]
  | n :: ns, m :: ms => by
    show PyData.eqvAll (.int n :: ns.map PyData.int) (.int m :: ms.map PyData.int) = _
    rw [PyData.eqvAll, eqvAll_ints ns ms, PyData.eqv]
    by_cases h : n = m
    · subst h
      by_cases h2 : ns = ms
      · subst h2; simp
      · rw [decide_eq_false h2, decide_eq_false (fun e => h2 (List.cons.inj e).2)]; simp
    · rw [decide_eq_false (fun e => h (List.cons.inj e).1)]
      have : (n == m) = false := by simp [h]
      rw [this]; rfl
theorem canLay_ints : ∀ ns : List Int, PyData.canLayAll0 (ns.map PyData.int) = true
  | [] => rfl
  | n :: ns => by
    show PyData.canLayAll0 (.int n :: ns.map PyData.int) = true
    rw [PyData.canLayAll0, canLay_ints ns]; rfl
theorem depthAll_ints : ∀ ns : List Int, PyData.depthAll (ns.map PyData.int) ≤ 1
  | [] => by decide
  | n :: ns => by
    show PyData.depthAll (.int n :: ns.map PyData.int) ≤ 1
    have := depthAll_ints ns
    simp only [PyData.depthAll, PyData.depth]
    omega
theorem shaped_ints (ns : List Int) : SeqAt.shaped (.list (ns.map PyData.int)) = true := by
  have h1 := canLay_ints ns
  have h2 := depthAll_ints ns
  unfold SeqAt.shaped
  rw [Bool.and_eq_true]
  refine ⟨by rw [PyData.canLay0]; exact h1, decide_eq_true ?_⟩
  simp only [PyData.depth]
  omega
def rEqI : R2 := fun x y H Q => ∃ p q ns ms, x = .ref p ∧ y = .ref q ∧ H p = some (IL ns) ∧ H q = some (IL ms) ∧ Q (.bl (decide (ns = ms))) H
theorem op_eqI (hu : X.A.units + 64 < cLine) : OpR X (compareOp .Eq) rEqI := OpR.imp (op_eqD hu) fun x y H Q h => by
  obtain ⟨p, q, ns, ms, rfl, rfl, h1, h2, k⟩ := h
  refine ⟨_, _, dp_IL h1, dp_IL h2, shaped_ints ns, shaped_ints ms, ?_⟩
  rw [PyData.eqv, eqvAll_ints]
  exact k
def rNeI : R2 := fun x y H Q => ∃ p q ns ms, x = .ref p ∧ y = .ref q ∧ H p = some (IL ns) ∧ H q = some (IL ms) ∧ Q (.bl (!decide (ns = ms))) H
theorem op_neI (hu : X.A.units + 64 < cLine) : OpR X (compareOp .NotEq) rNeI := OpR.imp (op_neD hu) fun x y H Q h => by
  obtain ⟨p, q, ns, ms, rfl, rfl, h1, h2, k⟩ := h
  refine ⟨_, _, dp_IL h1, dp_IL h2, shaped_ints ns, shaped_ints ms, ?_⟩
  rw [PyData.eqv, eqvAll_ints]
  exact k
/-! ### displays of ints, methods of lists -/
def rMax2 : List V → Hp → VK → Prop := fun xs H Q => ∃ i j, xs = [.int i, .int j] ∧ Q (.int (max i j)) H
def rMin2 : List V → Hp → VK → Prop := fun xs H Q => ∃ i j, xs = [.int i, .int j] ∧ Q (.int (min i j)) H
theorem max_if (i j : Int) : (if j > i then j else i) = max i j := by
  split <;> omega
theorem min_if (i j : Int) : (if j < i then j else i) = min i j := by
  split <;> omega
theorem call_maxI (hc : X.calm = true) : CallR X (.builtin "max") rMax2 := CallR.imp (call_max2 hc) fun xs H Q h => by
  obtain ⟨i, j, e, q⟩ := h
  exact ⟨i, j, e, by rw [max_if]; exact q⟩
theorem call_minI (hc : X.calm = true) : CallR X (.builtin "min") rMin2 := CallR.imp (call_min2 hc) fun xs H Q h => by
  obtain ⟨i, j, e, q⟩ := h
  exact ⟨i, j, e, by rw [min_if]; exact q⟩
def rIsN : R2 := fun x y H Q => y = V.non ∧ Q (.bl (decide (x = V.non))) H
def rIsNotN : R2 := fun x y H Q => y = V.non ∧ Q (.bl (!decide (x = V.non))) H
theorem op_isNone : OpR X (compareOp .Is) rIsN := op_isN
theorem op_notNone : OpR X (compareOp .IsNot) rIsNotN := op_notN
def rStrIn : R2 := fun x y H Q => ∃ i j, x = .str i ∧ y = .str j ∧ Q (.bl (!(Builtin.Str.occurrences j i 0 j.length 1).isEmpty)) H
theorem op_strIn : OpR X (compareOp .In) rStrIn := op_in_str
def rStrNotIn : R2 := fun x y H Q => ∃ i j, x = .str i ∧ y = .str j ∧ Q (.bl (!(!(Builtin.Str.occurrences j i 0 j.length 1).isEmpty))) H
theorem op_strNotIn : OpR X (compareOp .NotIn) rStrNotIn := op_notin_str
def tLstI (t : TA) : TE := fun σ H Q => t σ H fun xs H1 => ∃ ns, toInts xs = some ns ∧ ns.length ≤ sizeLine ∧ ∀ p, H1 p = none → Q (.ref p) (upd H1 p (IL ns))
theorem pe_lstI {es : List Expr} {t : TA} {pos : Pos} (h : PA X es t) : PE X (.List es pos) (tLstI t) := by
  refine ⟨fun pins s σ H Q I hq => ?_⟩
  refine wpAny_List_spliced (thn (h.run pos pins s σ H _ I hq) fun us s1 ⟨xs, H1, I1, r, ns, e, z, q⟩ => ?_)
  have e2 := toInts_eq e
  have z2 : xs.length ≤ sizeLine := by rw [e2, List.length_map]; exact z
  refine ⟨by rw [← r.length]; exact z2, ?_⟩
  have hf : H1 s1.heap.objs.size = none := I1.hok.fresh (Nat.le_refl _)
  have q' := q _ hf
  have e3 : IL ns = .lst xs := by unfold IL; rw [e2]
  rw [e3] at q'
  refine ⟨.ref s1.heap.objs.size, upd H1 s1.heap.objs.size (.lst xs), I1.laid (t' := s1.toks) (fun b u e => Heap.get?_push_of_some _ e) (Nat.le_refl _) ?_, rfl, q'⟩
  exact ⟨z2, us, 0, r, Heap.get?_push_size _ rfl⟩
/-- a method of a list that stands in a name: the slot i -/
def tBML (i : Nat) (r : V → List V → Hp → VK → Prop) (t : TA) : TE := fun σ H Q => ∃ p, σ[i]? = some (some (.ref p)) ∧ isL (H p) = true ∧ t σ H fun xs H2 => r (.ref p) xs H2 Q
theorem bml_imp {K : PySem.W.Frag} {i : Nat} {r : V → List V → Hp → VK → Prop} {t : TA} : ∀ σ H Q, tBML i r t σ H Q → tBM K "list" r (tVar i) t σ H Q := by
  intro σ H Q ⟨p, e, h, q⟩
  obtain ⟨xs, hx⟩ := isL_of h
  exact ⟨_, e, .inl ⟨rfl, _, .of hx⟩, q⟩
def tBML0 (i : Nat) (r : V → List V → Hp → VK → Prop) : TE := fun σ H Q => ∃ p, σ[i]? = some (some (.ref p)) ∧ isL (H p) = true ∧ r (.ref p) [] H Q
theorem bml0_imp {K : PySem.W.Frag} {i : Nat} {r : V → List V → Hp → VK → Prop} : ∀ σ H Q, tBML0 i r σ H Q → tBM0 K "list" r (tVar i) σ H Q := by
  intro σ H Q ⟨p, e, h, q⟩
  obtain ⟨xs, hx⟩ := isL_of h
  exact ⟨_, e, .inl ⟨rfl, _, .of hx⟩, q⟩
end
/-! ### written places and bounds -/
theorem atI_k {α : Type} (xs : List α) (k : Nat) : atI xs (k : Int) = xs[k]? := by
  unfold atI ixN
  rw [if_pos (Int.natCast_nonneg k)]
  by_cases h : k < xs.length
  · rw [if_pos (by omega), Int.toNat_natCast]; rfl
  · rw [if_neg (by omega), List.getElem?_eq_none (by omega)]; rfl
theorem atI_0 {α : Type} (xs : List α) : atI xs 0 = xs[0]? := atI_k xs 0
theorem atI_1 {α : Type} (xs : List α) : atI xs 1 = xs[1]? := atI_k xs 1
theorem atI_2 {α : Type} (xs : List α) : atI xs 2 = xs[2]? := atI_k xs 2
theorem atI_3 {α : Type} (xs : List α) : atI xs 3 = xs[3]? := atI_k xs 3
theorem atI_4 {α : Type} (xs : List α) : atI xs 4 = xs[4]? := atI_k xs 4
theorem cmul_r {i j : Int} (h1 : -18446744073709551616 < j) (h2 : j < 18446744073709551616) : CMul i j = True := eq_true (.inr ⟨h1, h2⟩)
theorem cmul_l {i j : Int} (h1 : -18446744073709551616 < i) (h2 : i < 18446744073709551616) : CMul i j = True := eq_true (.inl ⟨h1, h2⟩)
theorem cdiv_r {i j : Int} (h1 : 0 < j) (h2 : j < 1073741824) : CDiv i j = True := eq_true ⟨h1, h2⟩
theorem cast_lit (n : Nat) : ((no_index (OfNat.ofNat n) : Nat) : Int) = OfNat.ofNat n := rfl
/-! ### data that is tracked -/
mutual
inductive Dt (H : Hp) : V → PyData → Prop
  | non : Dt H .non .none
  | bl (b : Bool) : Dt H (.bl b) (.bool b)
  | int (i : Int) : Dt H (.int i) (.int i)
  | str (x : Str) : Dt H (.str x) (.str x)
  | lst {a : Addr} {xs : List V} {ds : List PyData} : H a = some (.lst xs) → DtAll H xs ds → Dt H (.ref a) (.list ds)
  | tup {a : Addr} {xs : List V} {ds : List PyData} : H a = some (.tup xs) → DtAll H xs ds → Dt H (.ref a) (.tuple ds)
inductive DtAll (H : Hp) : List V → List PyData → Prop
  | nil : DtAll H [] []
  | cons {v : V} {vs : List V} {d : PyData} {ds : List PyData} : Dt H v d → DtAll H vs ds → DtAll H (v :: vs) (d :: ds)
end
mutual
theorem Dt.same {H H' : Hp} (s : Same H H') : ∀ (d : PyData) (v : V), Dt H v d → Dt H' v d
  | .none, _, h => by cases h; exact .non
  | .bool b, _, h => by cases h; exact .bl b
  | .int i, _, h => by cases h; exact .int i
  | .str z, _, h => by cases h; exact .str z
  | .list ds, _, h => by cases h with | lst h1 h2 => exact .lst (s _ _ h1) (DtAll.same s ds _ h2)
  | .tuple ds, _, h => by cases h with | tup h1 h2 => exact .tup (s _ _ h1) (DtAll.same s ds _ h2)
  | .dict _, _, h => by cases h
theorem DtAll.same {H H' : Hp} (s : Same H H') : ∀ (ds : List PyData) (vs : List V), DtAll H vs ds → DtAll H' vs ds
  | [], _, h => by cases h; exact .nil
  | d :: ds, _, h => by cases h with | cons h1 h2 => exact .cons (Dt.same s d _ h1) (DtAll.same s ds _ h2)
end
mutual
theorem Dt.dp {K : PySem.W.Frag} {H : Hp} : ∀ (d : PyData) (v : V), Dt H v d → Dp K H v d
  | .none, _, h => by cases h; exact .non
  | .bool b, _, h => by cases h; exact .bl b
  | .int i, _, h => by cases h; exact .int i
  | .str z, _, h => by cases h; exact .str z
  | .list ds, _, h => by cases h with | lst h1 h2 => exact .lst (.of h1) (DtAll.dp ds _ h2)
  | .tuple ds, _, h => by cases h with | tup h1 h2 => exact .tup (.of h1) (DtAll.dp ds _ h2)
  | .dict _, _, h => by cases h
theorem DtAll.dp {K : PySem.W.Frag} {H : Hp} : ∀ (ds : List PyData) (vs : List V), DtAll H vs ds → DpAll K H vs ds
  | [], _, h => by cases h; exact .nil
  | d :: ds, _, h => by cases h with | cons h1 h2 => exact .cons (Dt.dp d _ h1) (DtAll.dp ds _ h2)
end
theorem dtAll_len {H : Hp} : ∀ {xs : List V} {ds : List PyData}, DtAll H xs ds → xs.length = ds.length
  | _, _, .nil => rfl
  | _, _, .cons _ t => by rw [List.length_cons, List.length_cons, dtAll_len t]
theorem dtAll_get {H : Hp} : ∀ {xs : List V} {ds : List PyData} {i : Nat}, DtAll H xs ds → i < ds.length → ∃ x d, xs[i]? = some x ∧ ds[i]? = some d ∧ Dt H x d
  | _, _, _, .nil, h => absurd h (Nat.not_lt_zero _)
  | _, _, 0, .cons a _, _ => ⟨_, _, rfl, rfl, a⟩
  | _, _, i + 1, .cons _ t, h => by
    obtain ⟨x, d, e1, e2, q⟩ := dtAll_get (i := i) t (Nat.lt_of_succ_lt_succ h)
    exact ⟨x, d, e1, e2, q⟩
theorem dt_ints {H : Hp} : ∀ ns : List Int, DtAll H (ns.map V.int) (ns.map PyData.int)
  | [] => .nil
  | n :: r => .cons (.int n) (dt_ints r)
theorem dt_IL {H : Hp} {p : Addr} {ns : List Int} (h : H p = some (IL ns)) : Dt H (.ref p) (.list (ns.map PyData.int)) := .lst h (dt_ints ns)
/-! ### isinstance of data -/
def tn : PyData → String
  | .none => "NoneType"
  | .bool _ => "bool"
  | .int _ => "int"
  | .str _ => "str"
  | .list _ => "list"
  | .tuple _ => "tuple"
  | .dict _ => "dict"
def tyO : Option HO → Option String
  | some (.lst _) => some "list"
  | some (.tup _) => some "tuple"
  | _ => none
def tyH (H : Hp) : V → Option String
  | .non => some "NoneType"
  | .bl _ => some "bool"
  | .int _ => some "int"
  | .str _ => some "str"
  | .ref a => tyO (H a)
  | _ => none
theorem tyH_non {H : Hp} : tyH H .non = some "NoneType" := rfl
theorem tyH_bl {H : Hp} {b : Bool} : tyH H (.bl b) = some "bool" := rfl
theorem tyH_int {H : Hp} {i : Int} : tyH H (.int i) = some "int" := rfl
theorem tyH_str {H : Hp} {x : Str} : tyH H (.str x) = some "str" := rfl
theorem tyH_ref {H : Hp} {a : Addr} : tyH H (.ref a) = tyO (H a) := rfl
theorem tyO_lst {xs : List V} : tyO (some (.lst xs)) = some "list" := rfl
theorem tyO_IL {xs : List Int} : tyO (some (IL xs)) = some "list" := rfl
theorem tyO_tup {xs : List V} : tyO (some (.tup xs)) = some "tuple" := rfl
theorem Dt.ty {H : Hp} {x : V} {d : PyData} (h : Dt H x d) : tyH H x = some (tn d) := by
  cases h with
  | non => rfl
  | bl b => rfl
  | int i => rfl
  | str z => rfl
  | lst h _ => rw [tyH_ref, h]; rfl
  | tup h _ => rw [tyH_ref, h]; rfl
theorem tyO_cases {o : Option HO} {t : String} (h : tyO o = some t) : (t = "list" ∧ ∃ xs, o = some (.lst xs)) ∨ (t = "tuple" ∧ ∃ xs, o = some (.tup xs)) := by
  cases o with
  | none => cases h
  | some u =>
    cases u with
    | lst xs => cases h; exact .inl ⟨rfl, xs, rfl⟩
    | tup xs => cases h; exact .inr ⟨rfl, xs, rfl⟩
    | _ => cases h
/-- isinstance(x, T), both built-in, by the name of x's type -/
def isB (a T : String) : Bool := a == T || (a == "bool" && T == "int")
def tyNames : List String := ["NoneType", "bool", "int", "str", "list", "tuple"]
def clNames : List String := ["bool", "int", "str", "list", "tuple"]
def isCl (T : String) : Bool := clNames.contains T
theorem isB_all : (tyNames.all fun a => clNames.all fun b => decide (kitB a b = some (isB a b))) = true := by decide +kernel
theorem isB_kit {a b : String} (h1 : a ∈ tyNames) (h2 : isCl b = true) : kitB a b = some (isB a b) := by
  have h := isB_all
  rw [List.all_eq_true] at h
  have h' := h a h1
  rw [List.all_eq_true] at h'
  exact of_decide_eq_true (h' b (List.contains_iff_mem.mp h2))
theorem tyH_x {K : PySem.W.Frag} {H : Hp} {x : V} {t : String} (h : tyH H x = some t) : TyX K H x (.type t) ∧ t ∈ tyNames := by
  cases x with
  | non => cases h; exact ⟨.base .non, by decide⟩
  | bl b => cases h; exact ⟨.base (.bl b), by decide⟩
  | int i => cases h; exact ⟨.base (.int i), by decide⟩
  | str z => cases h; exact ⟨.base (.str z), by decide⟩
  | ref a =>
    rcases tyO_cases h with ⟨rfl, xs, e⟩ | ⟨rfl, xs, e⟩
    · exact ⟨.base (.lst e), by decide⟩
    · exact ⟨.base (.tup e), by decide⟩
  | _ => cases h
def rIsiD : List V → Hp → VK → Prop := fun xs H Q => ∃ x T, xs = [x, .ty T] ∧ ∃ t, tyH H x = some t ∧ isCl T = true ∧ Q (.bl (isB t T)) H
theorem call_isiD {X : Cx} : CallR X (.builtin "isinstance") rIsiD := CallR.imp call_isi fun xs H Q h => by
  obtain ⟨x, T, rfl, t, ty, h2, q⟩ := h
  obtain ⟨h0, h1⟩ := tyH_x (K := X.K) ty
  exact ⟨x, .ty T, .type t, .type T, isB t T, rfl, .ty T, h0, kit_ty (isB_kit h1 h2), q⟩
theorem cl_bool : isCl "bool" = true := by decide
theorem cl_int : isCl "int" = true := by decide
theorem cl_str : isCl "str" = true := by decide
theorem cl_list : isCl "list" = true := by decide
theorem cl_tuple : isCl "tuple" = true := by decide
theorem isB_NoneType_bool : isB "NoneType" "bool" = false := by decide
theorem isB_NoneType_int : isB "NoneType" "int" = false := by decide
theorem isB_NoneType_str : isB "NoneType" "str" = false := by decide
theorem isB_NoneType_list : isB "NoneType" "list" = false := by decide
theorem isB_NoneType_tuple : isB "NoneType" "tuple" = false := by decide
theorem isB_bool_bool : isB "bool" "bool" = true := by decide
theorem isB_bool_int : isB "bool" "int" = true := by decide
theorem isB_bool_str : isB "bool" "str" = false := by decide
theorem isB_bool_list : isB "bool" "list" = false := by decide
theorem isB_bool_tuple : isB "bool" "tuple" = false := by decide
theorem isB_int_bool : isB "int" "bool" = false := by decide
theorem isB_int_int : isB "int" "int" = true := by decide
theorem isB_int_str : isB "int" "str" = false := by decide
theorem isB_int_list : isB "int" "list" = false := by decide
theorem isB_int_tuple : isB "int" "tuple" = false := by decide
theorem isB_str_bool : isB "str" "bool" = false := by decide
theorem isB_str_int : isB "str" "int" = false := by decide
theorem isB_str_str : isB "str" "str" = true := by decide
theorem isB_str_list : isB "str" "list" = false := by decide
theorem isB_str_tuple : isB "str" "tuple" = false := by decide
theorem isB_list_bool : isB "list" "bool" = false := by decide
theorem isB_list_int : isB "list" "int" = false := by decide
theorem isB_list_str : isB "list" "str" = false := by decide
theorem isB_list_list : isB "list" "list" = true := by decide
theorem isB_list_tuple : isB "list" "tuple" = false := by decide
theorem isB_tuple_bool : isB "tuple" "bool" = false := by decide
theorem isB_tuple_int : isB "tuple" "int" = false := by decide
theorem isB_tuple_str : isB "tuple" "str" = false := by decide
theorem isB_tuple_list : isB "tuple" "list" = false := by decide
theorem isB_tuple_tuple : isB "tuple" "tuple" = true := by decide
theorem scal_nn : scal .non .non = true := rfl
theorem scal_ii {a b : Int} : scal (.int a) (.int b) = true := rfl
theorem scal_bb {a b : Bool} : scal (.bl a) (.bl b) = true := rfl
theorem scal_ss {a b : Str} : scal (.str a) (.str b) = true := rfl
theorem scal_is {a : Int} {b : Str} : scal (.int a) (.str b) = true := rfl
theorem scal_si {a : Int} {b : Str} : scal (.str b) (.int a) = true := rfl
/-! ### lists and tuples that are tracked: their items -/
def itO : Option HO → Option (List V)
  | some (.lst xs) => some xs
  | some (.tup xs) => some xs
  | _ => none
theorem itO_lst {xs : List V} : itO (some (.lst xs)) = some xs := rfl
theorem itO_tup {xs : List V} : itO (some (.tup xs)) = some xs := rfl
theorem itO_IL {ns : List Int} : itO (some (IL ns)) = some (ns.map V.int) := rfl
theorem itO_cases {o : Option HO} {xs : List V} (h : itO o = some xs) : o = some (.lst xs) ∨ o = some (.tup xs) := by
  cases o with
  | none => cases h
  | some u =>
    cases u with
    | lst xs => cases h; exact .inl rfl
    | tup xs => cases h; exact .inr rfl
    | _ => cases h
def rLenQ : List V → Hp → VK → Prop := fun xs H Q => ∃ p ys, xs = [.ref p] ∧ itO (H p) = some ys ∧ Q (.int (ys.length : Int)) H
theorem call_lenQ {X : Cx} : CallR X (.builtin "len") rLenQ := CallR.imp call_len_seq fun xs H Q h => by
  obtain ⟨p, ys, e, h1, q⟩ := h
  rcases itO_cases h1 with h1 | h1
  · exact ⟨p, _, e, .inl (.of h1), q⟩
  · exact ⟨p, _, e, .inr (.of h1), q⟩
def rLenB : List V → Hp → VK → Prop := fun xs H Q => ∃ p ys, xs = [.ref p] ∧ itO (H p) = some ys ∧ (ys.length ≤ 16777216 → Q (.int (ys.length : Int)) H)
theorem call_lenB {X : Cx} : CallR X (.builtin "len") rLenB := fun pins s σ H xs us Q I r h => by
  obtain ⟨p, ys, e, h1, q⟩ := h
  refine call_lenQ pins s σ H xs us Q I r ⟨p, ys, e, h1, q ?_⟩
  rcases itO_cases h1 with h1 | h1
  · obtain ⟨_, _, _, z⟩ := I.list (.of h1)
    rw [sizeLine_eq] at z
    exact z
  · obtain ⟨_, _, _, z⟩ := I.tuple (.of h1)
    rw [sizeLine_eq] at z
    exact z
def rIxD : R2 := fun x y H Q => ∃ p xs i v, x = .ref p ∧ y = .int i ∧ itO (H p) = some xs ∧ atI xs i = some v ∧ Q v H
theorem ix_seqD {X : Cx} : IxR X rIxD := IxR.imp (ix_list.or ix_tup) fun x y H Q h => by
  obtain ⟨p, xs, i, v, e1, e2, h1, h2, q⟩ := h
  rcases itO_cases h1 with h1 | h1
  · exact .inl ⟨p, _, i, _, e1, e2, .of h1, h2, q⟩
  · exact .inr ⟨p, _, i, _, e1, e2, .of h1, h2, q⟩
/-- data that is told the same twice -/
def spSame (n : Nat) : Sp := fun vs H Q _ => ∃ (x y : V) (d : PyData), vs = [x, y] ∧ Dt H x d ∧ Dt H y d ∧ d.depth < n ∧ SeqAt.shaped d = true ∧ Q (.bl true) H
theorem depthAll_get : ∀ {ds : List PyData} {i : Nat} {d : PyData}, ds[i]? = some d → d.depth ≤ PyData.depthAll ds
  | [], _, _, h => by simp at h
  | a :: r, 0, d, h => by
    have e : a = d := Option.some.inj h
    subst e
    simp only [PyData.depthAll]
    omega
  | a :: r, i + 1, d, h => by
    have q := depthAll_get (ds := r) (i := i) (d := d) h
    simp only [PyData.depthAll]
    omega
theorem canLayAll_get : ∀ {ds : List PyData} {i : Nat} {d : PyData}, ds[i]? = some d → PyData.canLayAll0 ds = true → d.canLay0 = true
  | [], _, _, h, _ => by simp at h
  | a :: r, 0, d, h, c => by
    have e : a = d := Option.some.inj h
    subst e
    rw [PyData.canLayAll0, Bool.and_eq_true] at c
    exact c.1
  | a :: r, i + 1, d, h, c => by
    rw [PyData.canLayAll0, Bool.and_eq_true] at c
    exact canLayAll_get (ds := r) (i := i) (d := d) h c.2
theorem shaped_item {ds : List PyData} {i : Nat} {d : PyData} (h : ds[i]? = some d) (c : PyData.canLayAll0 ds = true) (k : PyData.depthAll ds + 1 ≤ 64) : SeqAt.shaped d = true := by
  unfold SeqAt.shaped
  rw [Bool.and_eq_true]
  refine ⟨canLayAll_get h c, decide_eq_true ?_⟩
  have := depthAll_get h
  omega
theorem none_fn {P : Program} {w : World} {K : PySem.W.Frag} {mg : Str → Option Value} {base : Heap} {CX : CXT} {f : Addr} {fd : FuncData} {ps : List Str} {sp : Sp} {k : Nat} (no : ∀ vs H Q E, ¬ sp vs H Q E) : FnOk P w K mg base CX k f fd ps sp :=
  ⟨fun vs H Q E h => absurd h (no vs H Q E), fun A outer s H args us vs Q E _ _ _ _ h => absurd h (no vs H Q E)⟩
end Dw

namespace Dw
open PySem PySem.Spec PyProof.Rows L2
/-! ### the CRC, on natural numbers -/
/-- one bit -/
def stepB (n b : Nat) : Nat := (2 * n % 65536) ^^^ (if n / 32768 % 2 = b then 0 else 4129)
/-- one byte, bit by bit from the highest on -/
def byteB (n v : Nat) : Nat := (List.range 8).foldl (fun m k => stepB m (v / 2 ^ (7 - k) % 2)) n
/-- one byte, at once -/
def byteP (n v : Nat) : Nat :=
  let t := (n / 256) ^^^ v
  let u := t ^^^ (t / 16)
  ((((n * 256) ^^^ (u * 4096)) ^^^ (u * 32)) ^^^ u) % 65536
def crcN (vs : List Nat) : Nat := vs.foldl byteP 65535
theorem xor_lt {a b k : Nat} (h1 : a < 2 ^ k) (h2 : b < 2 ^ k) : a ^^^ b < 2 ^ k := Nat.xor_lt_two_pow h1 h2
theorem stepB_lt (n b : Nat) : stepB n b < 65536 := by
  unfold stepB
  refine xor_lt (k := 16) ?_ ?_
  · exact Nat.mod_lt _ (by decide)
  · split <;> decide
theorem byteP_lt (n v : Nat) : byteP n v < 65536 := Nat.mod_lt _ (by decide)
theorem mul2 (a b : Nat) : 2 * (a ^^^ b) = (2 * a) ^^^ (2 * b) := by
  have h := @Nat.shiftLeft_xor_distrib 1 a b
  simp only [Nat.shiftLeft_eq, Nat.pow_one] at h
  rw [Nat.mul_comm 2, Nat.mul_comm 2, Nat.mul_comm 2]
  exact h
theorem mulp (k a b : Nat) : (a ^^^ b) * 2 ^ k = (a * 2 ^ k) ^^^ (b * 2 ^ k) := by
  have h := @Nat.shiftLeft_xor_distrib k a b
  simp only [Nat.shiftLeft_eq] at h
  exact h
theorem divp (k a b : Nat) : (a ^^^ b) / 2 ^ k = (a / 2 ^ k) ^^^ (b / 2 ^ k) := by
  have h := @Nat.shiftRight_xor_distrib k a b
  simp only [Nat.shiftRight_eq_div_pow] at h
  exact h
theorem modp (k a b : Nat) : (a ^^^ b) % 2 ^ k = (a % 2 ^ k) ^^^ (b % 2 ^ k) := Nat.xor_mod_two_pow
theorem xor4 (a b c d : Nat) : (a ^^^ b) ^^^ (c ^^^ d) = (a ^^^ c) ^^^ (b ^^^ d) := by
  rw [Nat.xor_assoc, ← Nat.xor_assoc b c d, Nat.xor_comm b c, Nat.xor_assoc c b d, ← Nat.xor_assoc]
theorem bit_cases (n : Nat) : n % 2 = 0 ∨ n % 2 = 1 := by omega
theorem stepB_xor (n m b c : Nat) (hb : b < 2) (hc : c < 2) : stepB (n ^^^ m) (b ^^^ c) = stepB n b ^^^ stepB m c := by
  unfold stepB
  have e1 : 2 * (n ^^^ m) % 65536 = (2 * n % 65536) ^^^ (2 * m % 65536) := by rw [mul2]; exact modp 16 _ _
  have e2 : (n ^^^ m) / 32768 % 2 = (n / 32768 % 2) ^^^ (m / 32768 % 2) := by
    have q := divp 15 n m
    have q2 := modp 1 (n / 32768) (m / 32768)
    simp only [Nat.pow_one] at q2
    have : (n ^^^ m) / 32768 = (n / 32768) ^^^ (m / 32768) := q
    rw [this, q2]
  rw [e1, e2, xor4]
  congr 1
  have k1 : b = 0 ∨ b = 1 := by omega
  have k2 : c = 0 ∨ c = 1 := by omega
  rcases bit_cases (n / 32768) with h1 | h1 <;> rcases bit_cases (m / 32768) with h2 | h2 <;> rcases k1 with rfl | rfl <;> rcases k2 with rfl | rfl <;> rw [h1, h2] <;> decide
theorem bit_xor (v u k : Nat) : (v ^^^ u) / 2 ^ k % 2 = (v / 2 ^ k % 2) ^^^ (u / 2 ^ k % 2) := by
  rw [divp]
  have q2 := modp 1 (v / 2 ^ k) (u / 2 ^ k)
  simp only [Nat.pow_one] at q2
  exact q2
theorem fold_xor (v u : Nat) : ∀ (l : List Nat) (n m : Nat), l.foldl (fun m k => stepB m ((v ^^^ u) / 2 ^ (7 - k) % 2)) (n ^^^ m) = l.foldl (fun m k => stepB m (v / 2 ^ (7 - k) % 2)) n ^^^ l.foldl (fun m k => stepB m (u / 2 ^ (7 - k) % 2)) m
  | [], _, _ => rfl
  | k :: r, n, m => by
    rw [List.foldl_cons, List.foldl_cons, List.foldl_cons, bit_xor, stepB_xor _ _ _ _ (Nat.mod_lt _ (by decide)) (Nat.mod_lt _ (by decide))]
    exact fold_xor v u r _ _
theorem byteB_xor (n m v u : Nat) : byteB (n ^^^ m) (v ^^^ u) = byteB n v ^^^ byteB m u := fold_xor v u _ n m
theorem byteP_xor (n m v u : Nat) : byteP (n ^^^ m) (v ^^^ u) = byteP n v ^^^ byteP m u := by
  have d8 := divp 8 n m
  have e0 : (n ^^^ m) / 256 ^^^ (v ^^^ u) = (n / 256 ^^^ v) ^^^ (m / 256 ^^^ u) := by
    have : (n ^^^ m) / 256 = (n / 256) ^^^ (m / 256) := d8
    rw [this, xor4]
  unfold byteP
  simp only
  rw [e0]
  generalize n / 256 ^^^ v = t
  generalize m / 256 ^^^ u = s
  have d4 : (t ^^^ s) / 16 = (t / 16) ^^^ (s / 16) := divp 4 t s
  rw [d4, xor4 t s]
  generalize t ^^^ t / 16 = a
  generalize s ^^^ s / 16 = b
  have m8 : (n ^^^ m) * 256 = (n * 256) ^^^ (m * 256) := mulp 8 n m
  have m12 : (a ^^^ b) * 4096 = (a * 4096) ^^^ (b * 4096) := mulp 12 a b
  have m5 : (a ^^^ b) * 32 = (a * 32) ^^^ (b * 32) := mulp 5 a b
  have md : ∀ x y : Nat, (x ^^^ y) % 65536 = (x % 65536) ^^^ (y % 65536) := modp 16
  rw [m8, m12, m5, ← md, xor4 (n * 256), xor4 (n * 256 ^^^ a * 4096), xor4 ((n * 256 ^^^ a * 4096) ^^^ a * 32)]
theorem tab_hi : ((List.range 256).all fun h => byteB (h * 256) 0 == byteP (h * 256) 0) = true := by decide +kernel
theorem tab_lo : ((List.range 256).all fun h => byteB h 0 == byteP h 0) = true := by decide +kernel
theorem tab_v : ((List.range 256).all fun h => byteB 0 h == byteP 0 h) = true := by decide +kernel
theorem of_tab {f g : Nat → Nat} {n k : Nat} (h : ((List.range n).all fun h => f h == g h) = true) (hk : k < n) : f k = g k := by
  rw [List.all_eq_true] at h
  have := h k (List.mem_range.mpr hk)
  exact eq_of_beq this
theorem hi_lo {n : Nat} : n = (n / 256 * 256) ^^^ (n % 256) := by
  apply Nat.eq_of_testBit_eq
  intro i
  have e1 : n / 256 * 256 = (n >>> 8) <<< 8 := by rw [Nat.shiftLeft_eq, Nat.shiftRight_eq_div_pow]
  have e2 : n % 256 = n % 2 ^ 8 := rfl
  rw [Nat.testBit_xor, e1, e2, Nat.testBit_mod_two_pow, Nat.testBit_shiftLeft, Nat.testBit_shiftRight]
  by_cases h : i < 8
  · have : ¬ i ≥ 8 := by omega
    simp [h, this]
  · have : i ≥ 8 := by omega
    have e : 8 + (i - 8) = i := by omega
    simp [h, this, e]
theorem byte_eq {n v : Nat} (hn : n < 65536) (hv : v < 256) : byteB n v = byteP n v := by
  have e := @hi_lo n
  have z : v = 0 ^^^ v := by rw [Nat.zero_xor]
  have z0 : n = n ^^^ 0 := by rw [Nat.xor_zero]
  have a1 : byteB n v = byteB n 0 ^^^ byteB 0 v := by
    have := byteB_xor n 0 0 v
    rw [Nat.xor_zero, Nat.zero_xor] at this
    exact this
  have a2 : byteP n v = byteP n 0 ^^^ byteP 0 v := by
    have := byteP_xor n 0 0 v
    rw [Nat.xor_zero, Nat.zero_xor] at this
    exact this
  have b1 : byteB n 0 = byteB (n / 256 * 256) 0 ^^^ byteB (n % 256) 0 := by
    have := byteB_xor (n / 256 * 256) (n % 256) 0 0
    rw [← e] at this
    exact this
  have b2 : byteP n 0 = byteP (n / 256 * 256) 0 ^^^ byteP (n % 256) 0 := by
    have := byteP_xor (n / 256 * 256) (n % 256) 0 0
    rw [← e] at this
    exact this
  rw [a1, a2, b1, b2, of_tab (f := fun h => byteB (h * 256) 0) (g := fun h => byteP (h * 256) 0) tab_hi (show n / 256 < 256 by omega), of_tab (f := fun h => byteB h 0) (g := fun h => byteP h 0) tab_lo (show n % 256 < 256 by omega), of_tab (f := fun h => byteB 0 h) (g := fun h => byteP 0 h) tab_v hv]
/-! ### whole numbers as natural ones -/
theorem xorN (a b : Nat) : Builtin.bitXor (a : Int) (b : Int) = ((a ^^^ b : Nat) : Int) := by
  rw [Bits.bitXor_pp (Int.natCast_nonneg a) (Int.natCast_nonneg b), Int.toNat_natCast, Int.toNat_natCast]
theorem orN (a b : Nat) : Builtin.bitOr (a : Int) (b : Int) = ((a ||| b : Nat) : Int) := by
  rw [Bits.bitOr_pp (Int.natCast_nonneg a) (Int.natCast_nonneg b), Int.toNat_natCast, Int.toNat_natCast]
theorem andN (a b : Nat) : Builtin.bitAnd (a : Int) (b : Int) = ((a &&& b : Nat) : Int) := by
  rw [bitAnd_pp (Int.natCast_nonneg a) (Int.natCast_nonneg b), Int.toNat_natCast, Int.toNat_natCast]
theorem and65535 (a : Nat) : Builtin.bitAnd (a : Int) 65535 = ((a % 65536 : Nat) : Int) := by
  have h := Bits.bitAnd_mask 16 (Int.natCast_nonneg a)
  have e : (2 : Int) ^ 16 - 1 = 65535 := by decide
  rw [e] at h
  rw [h]
  have e2 : (2 : Int) ^ 16 = 65536 := by decide
  rw [e2]
  omega
theorem and1 (a : Nat) : Builtin.bitAnd (a : Int) 1 = ((a % 2 : Nat) : Int) := by
  have h := Bits.bitAnd_mask 1 (Int.natCast_nonneg a)
  have e : (2 : Int) ^ 1 - 1 = 1 := by decide
  rw [e] at h
  rw [h]
  have e2 : (2 : Int) ^ 1 = 2 := by decide
  rw [e2]
  omega
theorem and255 (a : Nat) : Builtin.bitAnd (a : Int) 255 = ((a % 256 : Nat) : Int) := by
  have h := Bits.bitAnd_mask 8 (Int.natCast_nonneg a)
  have e : (2 : Int) ^ 8 - 1 = 255 := by decide
  rw [e] at h
  rw [h]
  have e2 : (2 : Int) ^ 8 = 256 := by decide
  rw [e2]
  omega
/-- (a | b) - (a & b) -/
theorem or_sub_and (a b : Nat) : Builtin.bitOr (a : Int) (b : Int) - Builtin.bitAnd (a : Int) (b : Int) = ((a ^^^ b : Nat) : Int) := by
  rw [orN, andN]
  have h1 := Bits.nat_xor_add_and a b
  have h2 := nat_or_add_and a b
  omega
/-- a list of bytes -/
def Bytes (ns : List Int) : Prop := ∀ n ∈ ns, 0 ≤ n ∧ n < 256
def crcZ (ns : List Int) : Int := (crcN (ns.map Int.toNat) : Nat)
theorem crcN_lt : ∀ vs : List Nat, crcN vs < 65536 := by
  intro vs
  unfold crcN
  have : ∀ (l : List Nat) (n : Nat), n < 65536 → l.foldl byteP n < 65536 := by
    intro l
    induction l with
    | nil => intro n h; exact h
    | cons a r ih => intro n _; exact ih _ (byteP_lt _ _)
  exact this vs 65535 (by decide)
theorem crcZ_nn (ns : List Int) : 0 ≤ crcZ ns ∧ crcZ ns < 65536 := by
  have := crcN_lt (ns.map Int.toNat)
  unfold crcZ
  omega
theorem take_more {α : Type} : ∀ {l : List α} {i : Nat} {x : α}, l[i]? = some x → l.take (i + 1) = l.take i ++ [x]
  | [], i, x, h => by simp at h
  | a :: l, 0, x, h => by
    have e : a = x := Option.some.inj h
    subst e
    rfl
  | a :: l, i + 1, x, h => by
    have ih := take_more (l := l) (i := i) (x := x) h
    show a :: l.take (i + 1) = a :: l.take i ++ [x]
    rw [ih]
    rfl
theorem crcN_more {ns : List Int} {i : Nat} {v : Nat} (h : ns[i]? = some (v : Int)) : crcN ((ns.take (i + 1)).map Int.toNat) = byteP (crcN ((ns.take i).map Int.toNat)) v := by
  unfold crcN
  rw [take_more h, List.map_append, List.foldl_append]
  simp
theorem ints_at {ns : List Int} {i : Nat} {v : V} (h : (ns.map V.int)[i]? = some v) : ∃ z : Int, v = V.int z ∧ ns[i]? = some z := by
  rw [List.getElem?_map] at h
  cases e : ns[i]? with
  | none => rw [e] at h; cases h
  | some z => rw [e] at h; exact ⟨z, (Option.some.inj h).symm, rfl⟩
theorem bytes_at {ns : List Int} {i : Nat} {z : Int} (hb : Bytes ns) (h : ns[i]? = some z) : ∃ v : Nat, z = (v : Int) ∧ v < 256 := by
  have := hb z (List.mem_of_getElem? h)
  exact ⟨z.toNat, by omega, by omega⟩
def spCrc : Sp := fun vs H Q _ => ∃ (a : Addr) (ns : List Int), vs = [.ref a] ∧ H a = some (IL ns) ∧ Bytes ns ∧ Q (.int (crcZ ns)) H
end Dw
namespace Dw
open PySem PySem.Spec PyProof.Rows L2
theorem zdiv (a k : Nat) : (a : Int) / 2 ^ k = ((a / 2 ^ k : Nat) : Int) := by
  rw [two_pow_cast]
  exact (Int.natCast_ediv _ _).symm
theorem zmul (a k : Nat) : (a : Int) * 2 ^ k = ((a * 2 ^ k : Nat) : Int) := by
  rw [two_pow_cast]
  exact (Int.natCast_mul _ _).symm
def takenN (n v : Nat) : Nat := ((n / 256) ^^^ v) ^^^ (((n / 256) ^^^ v) / 16)
theorem takenZ (n v : Nat) : Builtin.bitXor (Builtin.bitXor ((n : Int) / 256) (v : Int)) (Builtin.bitXor ((n : Int) / 256) (v : Int) / 16) = ((takenN n v : Nat) : Int) := by
  have e1 : (n : Int) / 256 = ((n / 256 : Nat) : Int) := zdiv n 8
  rw [e1, xorN]
  have e2 : ((n / 256 ^^^ v : Nat) : Int) / 16 = (((n / 256 ^^^ v) / 16 : Nat) : Int) := zdiv _ 4
  rw [e2, xorN]
  rfl
theorem takenN_lt {n v : Nat} (hn : n < 65536) (hv : v < 256) : takenN n v < 256 := by
  unfold takenN
  have h1 : n / 256 ^^^ v < 2 ^ 8 := xor_lt (by omega) hv
  exact xor_lt (k := 8) h1 (by omega)
/-- the program's step on whole numbers -/
theorem stepZ (n v : Nat) : Builtin.bitAnd (Builtin.bitXor (Builtin.bitXor (Builtin.bitXor ((n : Int) * 256) ((takenN n v : Int) * 4096)) ((takenN n v : Int) * 32)) (takenN n v : Int)) 65535 = ((byteP n v : Nat) : Int) := by
  have e1 : (n : Int) * 256 = ((n * 256 : Nat) : Int) := zmul n 8
  have e2 : (takenN n v : Int) * 4096 = ((takenN n v * 4096 : Nat) : Int) := zmul _ 12
  have e3 : (takenN n v : Int) * 32 = ((takenN n v * 32 : Nat) : Int) := zmul _ 5
  rw [e1, e2, e3, xorN, xorN, xorN, and65535]
  rfl
end Dw
namespace Dw
open PySem PySem.Spec PyProof.Rows L2
theorem SameB.none {p q r : Addr} {H H' : Hp} (s : SameB p H H') (hP : Pool H' p q) (h : H' r = none) : H r = none := by
  cases e : H r with
  | none => rfl
  | some o =>
    by_cases q : r = p
    · subst q
      obtain ⟨u, hu⟩ := hP.there
      rw [hu] at h; cases h
    · rw [s r o q e] at h; cases h
theorem Pool.upd {H : Hp} {p q r : Addr} {o : HO} (h : Pool H p q) (n : H r = none) : Pool (upd H r o) p q := h.same (same_new n o)
theorem Pool.ups {H : Hp} {p q r : Addr} {o : HO} (h : Pool H p q) (n : p ≠ r) (n2 : q ≠ r) : Pool (L2.upd H r o) p q := by
  obtain ⟨ns, a, b, c, d, h1, h2, h3⟩ := h
  exact ⟨ns, a, b, c, d, by rw [upd_ne n]; exact h1, by rw [upd_ne n2]; exact h2, h3⟩
/-- [e for k in range(..)] of numbers that are drawn -/
theorem lc_pool {p q : Addr} {R : Int → Prop} {lo : Int} {n j : Nat} {te : TE} {vs : List Nat} {σ : L2.St} {H1 : Hp} {D : Addr} {Qd : Hp → Prop} (hn : n ≤ 16777215) (hP : Pool H1 p q) (hD : H1 D = none) (hw : ∀ v, wipe ((wipe σ vs).set j v) vs = wipe σ vs)
    (hte : ∀ i H3 (Q' : VK), i < n → Pool H3 p q → SameB p H1 H3 → (∀ v H4, R v → Pool H4 p q → SameB p H3 H4 → Q' (.int v) H4) → te ((wipe σ vs).set j (some (.int (lo + (i : Nat))))) H3 Q')
    (hd : ∀ ns H', ns.length = n → (∀ v ∈ ns, R v) → Pool H' p q → SameB p H1 H' → H' D = some (IL ns) → Qd H') :
    ∃ W : Nat → Nat → Hp → Prop, (∃ m, W 0 m (L2.upd H1 D (.lst []))) ∧ ∀ i m H, W i m H →
      ((Itr lo n).stop i H ∧ Qd H) ∨ ((Itr lo n).go i H ∧ ∃ Nx : Hp → Prop, (∀ H', Nx H' → ∃ m', m' < m ∧ W (i + 1) m' H') ∧ ∀ x H', (Itr lo n).yld i H x H' → gName j x (wipe σ vs) H' fun σ2 H2 => wipe σ2 vs = wipe σ vs ∧ tYes σ2 H2 fun b H3 =>
        if b = true then te σ2 H3 fun y H4 => ∃ acc, H4 D = some (.lst acc) ∧ acc.length < sizeLine ∧ Nx (L2.upd H4 D (.lst (acc ++ [y]))) else Nx H3) := by
  have hDp : p ≠ D := hP.ne hD
  have hDq : q ≠ D := hP.ne2 hD
  refine lc_range (lo := lo) (n := n) (fun i H' => Pool H' p q ∧ SameB p H1 H' ∧ ∃ ns : List Int, H' D = some (IL ns) ∧ ns.length = i ∧ ∀ v ∈ ns, R v) ⟨hP.upd hD, Same.b (same_new hD _), [], upd_same, rfl, fun v h => by cases h⟩ ?_ ?_
  · intro i H hi h
    obtain ⟨h1, h2, ns, h3, h4, h5⟩ := h
    refine ⟨hw _, ?_⟩
    simp only [tYes, if_true]
    refine hte i H _ hi h1 h2 fun v H4 hR hP4 hs => ?_
    have e : H4 D = some (IL ns) := hs D _ hDp.symm h3
    have ez : ns.map V.int ++ [V.int v] = (ns ++ [v]).map V.int := by rw [List.map_append]; rfl
    refine ⟨ns.map V.int, e, by rw [List.length_map, h4]; exact line_lt (by omega), hP4.ups hDp hDq, ?_, ns ++ [v], ?_, by rw [List.length_append, h4]; rfl, ?_⟩
    · intro b o nb hb
      rw [upd_ne (ne_of_none hb hD)]
      exact hs b o nb (h2 b o nb hb)
    · rw [upd_same, ez]
      rfl
    · intro x hx
      rcases List.mem_append.mp hx with hx | hx
      · exact h5 x hx
      · rw [List.mem_singleton.mp hx]; exact hR
  · intro H h
    obtain ⟨h1, h2, ns, h3, h4, h5⟩ := h
    exact hd ns H h4 h5 h1 h2 h3
/-- drawn bytes: a new list -/
def spSomeBytes : Sp := fun vs H Q _ => ∃ (p q : Addr) (m : Int), vs = [.ref p, .int m] ∧ Pool H p q ∧ 0 ≤ m ∧ m < 100000 ∧ ∀ r ns H', Pool H' p q → SameB p H H' → H r = none → H' r = some (IL ns) → Bytes ns → (ns.length : Int) ≤ m → Q (.ref r) H'
def spOr : Sp := fun vs H Q _ => ∃ a b : Nat, vs = [.int a, .int b] ∧ Q (.int ((a ^^^ b : Nat) : Int)) H
end Dw
namespace Dw
open PySem PySem.Spec PyProof.Rows L2
/-- the first k bits of a byte -/
def byteK (n v k : Nat) : Nat := (List.range k).foldl (fun m k => stepB m (v / 2 ^ (7 - k) % 2)) n
theorem byteK_succ (n v k : Nat) : byteK n v (k + 1) = stepB (byteK n v k) (v / 2 ^ (7 - k) % 2) := by
  unfold byteK
  rw [List.range_succ, List.foldl_append]
  rfl
theorem byteK_lt {n v : Nat} (hn : n < 65536) : ∀ k, byteK n v k < 65536
  | 0 => hn
  | k + 1 => by rw [byteK_succ]; exact stepB_lt _ _
theorem stepB_ne {n b : Nat} (h : n / 32768 % 2 ≠ b) : (2 * n % 65536) ^^^ 4129 = stepB n b := by
  unfold stepB
  rw [if_neg h]
theorem stepB_eq {n b : Nat} (h : n / 32768 % 2 = b) : 2 * n % 65536 = stepB n b := by
  unfold stepB
  rw [if_pos h, Nat.xor_zero]
end Dw
namespace Dw
open PySem PySem.Spec PyProof.Rows L2
theorem dep_int (i : Int) : (PyData.int i).depth < 8 := by simp only [PyData.depth]; decide
theorem sh_int (i : Int) : SeqAt.shaped (PyData.int i) = true := by
  unfold SeqAt.shaped
  simp only [PyData.depth, PyData.canLay0]
  rfl
theorem same_int {i : Int} {H : Hp} {Q : VK} {E : XK} (q : Q (.bl true) H) : spSame 8 [.int i, .int i] H Q E := ⟨_, _, .int i, rfl, .int i, .int i, dep_int i, sh_int i, q⟩
theorem dep_ints (ns : List Int) : (PyData.list (ns.map PyData.int)).depth < 8 := by
  have := depthAll_ints ns
  simp only [PyData.depth]
  omega
theorem same_IL {ns : List Int} {r u : Addr} {H : Hp} {Q : VK} {E : XK} (h1 : H r = some (IL ns)) (h2 : H u = some (IL ns)) (q : Q (.bl true) H) : spSame 8 [.ref r, .ref u] H Q E :=
  ⟨_, _, _, rfl, dt_IL h1, dt_IL h2, dep_ints ns, shaped_ints ns, q⟩
end Dw
namespace Dw
open PySem PySem.Spec PyProof.Rows L2
/-! ### bits -/
/-- the eight bits of a byte, the highest first -/
def bits8 (v : Nat) : List Int := [((v / 128 % 2 : Nat) : Int), ((v / 64 % 2 : Nat) : Int), ((v / 32 % 2 : Nat) : Int), ((v / 16 % 2 : Nat) : Int), ((v / 8 % 2 : Nat) : Int), ((v / 4 % 2 : Nat) : Int), ((v / 2 % 2 : Nat) : Int), ((v % 2 : Nat) : Int)]
def spByteBits : Sp := fun vs H Q _ => ∃ v : Nat, vs = [.int (v : Int)] ∧ v < 256 ∧ ∀ r H', Same H H' → H r = none → H' r = some (IL (bits8 v)) → Q (.ref r) H'
end Dw


namespace Dw
open PySem PySem.Spec PyProof.Rows L2
theorem Same.seqT {K : PySem.W.Frag} {H H' : Hp} {a : Addr} {xs : List V} (e : Same H H') (h : SqT K H a xs) : SqT K H' a xs := by
  rcases h with (h | ⟨o, h⟩) | h
  · exact .inl (.inl (e _ _ h))
  · exact .inl (.inr ⟨o, e _ _ h⟩)
  · exact .inr h
/-! ### comprehensions whose items are ints that hang on the place alone (with a test: F) -/
theorem lc_rangeI {lo : Int} {n : Nat} {f : Nat → Int} {j : Nat} {te : TE} {vs : List Nat} {σ : L2.St} {H1 : Hp} {D : Addr} {Qd : Hp → Prop} (hn : n ≤ 16777215) (hD : H1 D = none) (hw : ∀ v, wipe ((wipe σ vs).set j v) vs = wipe σ vs)
    (hte : ∀ i H3 (Q' : VK), i < n → Same H1 H3 → (∀ H4, Same H3 H4 → Q' (.int (f i)) H4) → te ((wipe σ vs).set j (some (.int (lo + (i : Nat))))) H3 Q')
    (hd : ∀ H', Same H1 H' → H' D = some (IL ((List.range n).map f)) → Qd H') :
    ∃ W : Nat → Nat → Hp → Prop, (∃ m, W 0 m (L2.upd H1 D (.lst []))) ∧ ∀ i m H, W i m H →
      ((Itr lo n).stop i H ∧ Qd H) ∨ ((Itr lo n).go i H ∧ ∃ Nx : Hp → Prop, (∀ H', Nx H' → ∃ m', m' < m ∧ W (i + 1) m' H') ∧ ∀ x H', (Itr lo n).yld i H x H' → gName j x (wipe σ vs) H' fun σ2 H2 => wipe σ2 vs = wipe σ vs ∧ tYes σ2 H2 fun b H3 =>
        if b = true then te σ2 H3 fun y H4 => ∃ acc, H4 D = some (.lst acc) ∧ acc.length < sizeLine ∧ Nx (L2.upd H4 D (.lst (acc ++ [y]))) else Nx H3) := by
  refine lc_range (lo := lo) (n := n) (fun i H' => Same H1 H' ∧ H' D = some (IL ((List.range i).map f))) ⟨same_new hD _, upd_same⟩ ?_ ?_
  · intro i H hi h
    obtain ⟨h1, h2⟩ := h
    refine ⟨hw _, ?_⟩
    simp only [tYes, if_true]
    refine hte i H _ hi h1 fun H4 hs => ?_
    have hlt : i < n := hi
    have e : H4 D = some (IL ((List.range i).map f)) := hs D _ h2
    have ez : ((List.range i).map f).map V.int ++ [V.int (f i)] = ((List.range (i + 1)).map f).map V.int := by rw [List.range_succ, List.map_append, List.map_append]; rfl
    refine ⟨_, e, by rw [List.length_map, List.length_map, List.length_range]; exact line_lt (by omega), fun b o hb => ?_, ?_⟩
    · rw [upd_ne (ne_of_none hb hD)]
      exact hs _ _ (h1 b o hb)
    · rw [upd_same, ez]
      rfl
  · intro H h
    exact hd H h.1 h.2
theorem lc_rangeF {lo : Int} {n : Nat} {f : Nat → Int} {kp : Nat → Bool} {tt : TT} {j : Nat} {te : TE} {vs : List Nat} {σ : L2.St} {H1 : Hp} {D : Addr} {Qd : Hp → Prop} (hn : n ≤ 16777215) (hD : H1 D = none) (hw : ∀ v, wipe ((wipe σ vs).set j v) vs = wipe σ vs)
    (htt : ∀ i H3 (Q' : Bool → Hp → Prop), i < n → Same H1 H3 → (∀ H4, Same H3 H4 → Q' (kp i) H4) → tt ((wipe σ vs).set j (some (.int (lo + (i : Nat))))) H3 Q')
    (hte : ∀ i H3 (Q' : VK), i < n → kp i = true → Same H1 H3 → (∀ H4, Same H3 H4 → Q' (.int (f i)) H4) → te ((wipe σ vs).set j (some (.int (lo + (i : Nat))))) H3 Q')
    (hd : ∀ H', Same H1 H' → H' D = some (IL (((List.range n).filter kp).map f)) → Qd H') :
    ∃ W : Nat → Nat → Hp → Prop, (∃ m, W 0 m (L2.upd H1 D (.lst []))) ∧ ∀ i m H, W i m H →
      ((Itr lo n).stop i H ∧ Qd H) ∨ ((Itr lo n).go i H ∧ ∃ Nx : Hp → Prop, (∀ H', Nx H' → ∃ m', m' < m ∧ W (i + 1) m' H') ∧ ∀ x H', (Itr lo n).yld i H x H' → gName j x (wipe σ vs) H' fun σ2 H2 => wipe σ2 vs = wipe σ vs ∧ tt σ2 H2 fun b H3 =>
        if b = true then te σ2 H3 fun y H4 => ∃ acc, H4 D = some (.lst acc) ∧ acc.length < sizeLine ∧ Nx (L2.upd H4 D (.lst (acc ++ [y]))) else Nx H3) := by
  refine lc_range (lo := lo) (n := n) (fun i H' => Same H1 H' ∧ H' D = some (IL (((List.range i).filter kp).map f))) ⟨same_new hD _, upd_same⟩ ?_ ?_
  · intro i H hi h
    obtain ⟨h1, h2⟩ := h
    refine ⟨hw _, ?_⟩
    refine htt i H _ hi h1 fun H4 hs => ?_
    have hlt : i < n := hi
    by_cases c : kp i = true
    · rw [if_pos c]
      refine hte i H4 _ hi c (h1.trans hs) fun H5 hs5 => ?_
      have e : H5 D = some (IL (((List.range i).filter kp).map f)) := hs5 D _ (hs D _ h2)
      have ez : (((List.range i).filter kp).map f).map V.int ++ [V.int (f i)] = (((List.range (i + 1)).filter kp).map f).map V.int := by
        rw [List.range_succ, List.filter_append, List.map_append, List.map_append]
        simp [c]
      refine ⟨_, e, ?_, fun b o hb => ?_, ?_⟩
      · rw [List.length_map, List.length_map]
        have := List.length_filter_le kp (List.range i)
        rw [List.length_range] at this
        exact line_lt (by omega)
      · rw [upd_ne (ne_of_none hb hD)]
        exact hs5 _ _ (hs _ _ (h1 b o hb))
      · rw [upd_same, ez]
        rfl
    · rw [if_neg c]
      refine ⟨h1.trans hs, ?_⟩
      rw [hs D _ h2, List.range_succ, List.filter_append]
      simp [c]
  · intro H h
    exact hd H h.1 h.2
theorem lc_listI {K : PySem.W.Frag} {a : Addr} {xs : List V} {f : Nat → Int} {j : Nat} {te : TE} {vs : List Nat} {σ : L2.St} {H1 : Hp} {D : Addr} {Qd : Hp → Prop} (hn : xs.length ≤ 16777215) (hS : SqL K H1 a xs) (hD : H1 D = none) (hw : ∀ v, wipe ((wipe σ vs).set j v) vs = wipe σ vs)
    (hte : ∀ i x H3 (Q' : VK), xs[i]? = some x → Same H1 H3 → (∀ H4, Same H3 H4 → Q' (.int (f i)) H4) → te ((wipe σ vs).set j (some (x))) H3 Q')
    (hd : ∀ H', Same H1 H' → H' D = some (IL ((List.range xs.length).map f)) → Qd H') :
    ∃ W : Nat → Nat → Hp → Prop, (∃ m, W 0 m (L2.upd H1 D (.lst []))) ∧ ∀ i m H, W i m H →
      ((Itl K a).stop i H ∧ Qd H) ∨ ((Itl K a).go i H ∧ ∃ Nx : Hp → Prop, (∀ H', Nx H' → ∃ m', m' < m ∧ W (i + 1) m' H') ∧ ∀ x H', (Itl K a).yld i H x H' → gName j x (wipe σ vs) H' fun σ2 H2 => wipe σ2 vs = wipe σ vs ∧ tYes σ2 H2 fun b H3 =>
        if b = true then te σ2 H3 fun y H4 => ∃ acc, H4 D = some (.lst acc) ∧ acc.length < sizeLine ∧ Nx (L2.upd H4 D (.lst (acc ++ [y]))) else Nx H3) := by
  refine lc_list (K := K) (a := a) (xs := xs) (fun i H' => Same H1 H' ∧ H' D = some (IL ((List.range i).map f))) ⟨same_new hD _, upd_same⟩ (fun i H' _ h => ?_) ?_ ?_
  · exact Same.seq h.1 hS
  · intro i x H hi h
    obtain ⟨h1, h2⟩ := h
    refine ⟨hw _, ?_⟩
    simp only [tYes, if_true]
    refine hte i _ H _ hi h1 fun H4 hs => ?_
    have hlt : i < xs.length := (List.getElem?_eq_some_iff.mp hi).1
    have e : H4 D = some (IL ((List.range i).map f)) := hs D _ h2
    have ez : ((List.range i).map f).map V.int ++ [V.int (f i)] = ((List.range (i + 1)).map f).map V.int := by rw [List.range_succ, List.map_append, List.map_append]; rfl
    refine ⟨_, e, by rw [List.length_map, List.length_map, List.length_range]; exact line_lt (by omega), fun b o hb => ?_, ?_⟩
    · rw [upd_ne (ne_of_none hb hD)]
      exact hs _ _ (h1 b o hb)
    · rw [upd_same, ez]
      rfl
  · intro H h
    exact hd H h.1 h.2
theorem lc_listF {K : PySem.W.Frag} {a : Addr} {xs : List V} {f : Nat → Int} {kp : Nat → Bool} {tt : TT} {j : Nat} {te : TE} {vs : List Nat} {σ : L2.St} {H1 : Hp} {D : Addr} {Qd : Hp → Prop} (hn : xs.length ≤ 16777215) (hS : SqL K H1 a xs) (hD : H1 D = none) (hw : ∀ v, wipe ((wipe σ vs).set j v) vs = wipe σ vs)
    (htt : ∀ i x H3 (Q' : Bool → Hp → Prop), xs[i]? = some x → Same H1 H3 → (∀ H4, Same H3 H4 → Q' (kp i) H4) → tt ((wipe σ vs).set j (some (x))) H3 Q')
    (hte : ∀ i x H3 (Q' : VK), xs[i]? = some x → kp i = true → Same H1 H3 → (∀ H4, Same H3 H4 → Q' (.int (f i)) H4) → te ((wipe σ vs).set j (some (x))) H3 Q')
    (hd : ∀ H', Same H1 H' → H' D = some (IL (((List.range xs.length).filter kp).map f)) → Qd H') :
    ∃ W : Nat → Nat → Hp → Prop, (∃ m, W 0 m (L2.upd H1 D (.lst []))) ∧ ∀ i m H, W i m H →
      ((Itl K a).stop i H ∧ Qd H) ∨ ((Itl K a).go i H ∧ ∃ Nx : Hp → Prop, (∀ H', Nx H' → ∃ m', m' < m ∧ W (i + 1) m' H') ∧ ∀ x H', (Itl K a).yld i H x H' → gName j x (wipe σ vs) H' fun σ2 H2 => wipe σ2 vs = wipe σ vs ∧ tt σ2 H2 fun b H3 =>
        if b = true then te σ2 H3 fun y H4 => ∃ acc, H4 D = some (.lst acc) ∧ acc.length < sizeLine ∧ Nx (L2.upd H4 D (.lst (acc ++ [y]))) else Nx H3) := by
  refine lc_list (K := K) (a := a) (xs := xs) (fun i H' => Same H1 H' ∧ H' D = some (IL (((List.range i).filter kp).map f))) ⟨same_new hD _, upd_same⟩ (fun i H' _ h => ?_) ?_ ?_
  · exact Same.seq h.1 hS
  · intro i x H hi h
    obtain ⟨h1, h2⟩ := h
    refine ⟨hw _, ?_⟩
    refine htt i _ H _ hi h1 fun H4 hs => ?_
    have hlt : i < xs.length := (List.getElem?_eq_some_iff.mp hi).1
    by_cases c : kp i = true
    · rw [if_pos c]
      refine hte i _ H4 _ hi c (h1.trans hs) fun H5 hs5 => ?_
      have e : H5 D = some (IL (((List.range i).filter kp).map f)) := hs5 D _ (hs D _ h2)
      have ez : (((List.range i).filter kp).map f).map V.int ++ [V.int (f i)] = (((List.range (i + 1)).filter kp).map f).map V.int := by
        rw [List.range_succ, List.filter_append, List.map_append, List.map_append]
        simp [c]
      refine ⟨_, e, ?_, fun b o hb => ?_, ?_⟩
      · rw [List.length_map, List.length_map]
        have := List.length_filter_le kp (List.range i)
        rw [List.length_range] at this
        exact line_lt (by omega)
      · rw [upd_ne (ne_of_none hb hD)]
        exact hs5 _ _ (hs _ _ (h1 b o hb))
      · rw [upd_same, ez]
        rfl
    · rw [if_neg c]
      refine ⟨h1.trans hs, ?_⟩
      rw [hs D _ h2, List.range_succ, List.filter_append]
      simp [c]
  · intro H h
    exact hd H h.1 h.2
theorem lc_tupI {K : PySem.W.Frag} {a : Addr} {xs : List V} {f : Nat → Int} {j : Nat} {te : TE} {vs : List Nat} {σ : L2.St} {H1 : Hp} {D : Addr} {Qd : Hp → Prop} (hn : xs.length ≤ 16777215) (hS : SqT K H1 a xs) (hD : H1 D = none) (hw : ∀ v, wipe ((wipe σ vs).set j v) vs = wipe σ vs)
    (hte : ∀ i x H3 (Q' : VK), xs[i]? = some x → Same H1 H3 → (∀ H4, Same H3 H4 → Q' (.int (f i)) H4) → te ((wipe σ vs).set j (some (x))) H3 Q')
    (hd : ∀ H', Same H1 H' → H' D = some (IL ((List.range xs.length).map f)) → Qd H') :
    ∃ W : Nat → Nat → Hp → Prop, (∃ m, W 0 m (L2.upd H1 D (.lst []))) ∧ ∀ i m H, W i m H →
      ((Itt K a).stop i H ∧ Qd H) ∨ ((Itt K a).go i H ∧ ∃ Nx : Hp → Prop, (∀ H', Nx H' → ∃ m', m' < m ∧ W (i + 1) m' H') ∧ ∀ x H', (Itt K a).yld i H x H' → gName j x (wipe σ vs) H' fun σ2 H2 => wipe σ2 vs = wipe σ vs ∧ tYes σ2 H2 fun b H3 =>
        if b = true then te σ2 H3 fun y H4 => ∃ acc, H4 D = some (.lst acc) ∧ acc.length < sizeLine ∧ Nx (L2.upd H4 D (.lst (acc ++ [y]))) else Nx H3) := by
  refine lc_tup (K := K) (a := a) (xs := xs) (fun i H' => Same H1 H' ∧ H' D = some (IL ((List.range i).map f))) ⟨same_new hD _, upd_same⟩ (fun i H' _ h => ?_) ?_ ?_
  · exact Same.seqT h.1 hS
  · intro i x H hi h
    obtain ⟨h1, h2⟩ := h
    refine ⟨hw _, ?_⟩
    simp only [tYes, if_true]
    refine hte i _ H _ hi h1 fun H4 hs => ?_
    have hlt : i < xs.length := (List.getElem?_eq_some_iff.mp hi).1
    have e : H4 D = some (IL ((List.range i).map f)) := hs D _ h2
    have ez : ((List.range i).map f).map V.int ++ [V.int (f i)] = ((List.range (i + 1)).map f).map V.int := by rw [List.range_succ, List.map_append, List.map_append]; rfl
    refine ⟨_, e, by rw [List.length_map, List.length_map, List.length_range]; exact line_lt (by omega), fun b o hb => ?_, ?_⟩
    · rw [upd_ne (ne_of_none hb hD)]
      exact hs _ _ (h1 b o hb)
    · rw [upd_same, ez]
      rfl
  · intro H h
    exact hd H h.1 h.2
theorem lc_tupF {K : PySem.W.Frag} {a : Addr} {xs : List V} {f : Nat → Int} {kp : Nat → Bool} {tt : TT} {j : Nat} {te : TE} {vs : List Nat} {σ : L2.St} {H1 : Hp} {D : Addr} {Qd : Hp → Prop} (hn : xs.length ≤ 16777215) (hS : SqT K H1 a xs) (hD : H1 D = none) (hw : ∀ v, wipe ((wipe σ vs).set j v) vs = wipe σ vs)
    (htt : ∀ i x H3 (Q' : Bool → Hp → Prop), xs[i]? = some x → Same H1 H3 → (∀ H4, Same H3 H4 → Q' (kp i) H4) → tt ((wipe σ vs).set j (some (x))) H3 Q')
    (hte : ∀ i x H3 (Q' : VK), xs[i]? = some x → kp i = true → Same H1 H3 → (∀ H4, Same H3 H4 → Q' (.int (f i)) H4) → te ((wipe σ vs).set j (some (x))) H3 Q')
    (hd : ∀ H', Same H1 H' → H' D = some (IL (((List.range xs.length).filter kp).map f)) → Qd H') :
    ∃ W : Nat → Nat → Hp → Prop, (∃ m, W 0 m (L2.upd H1 D (.lst []))) ∧ ∀ i m H, W i m H →
      ((Itt K a).stop i H ∧ Qd H) ∨ ((Itt K a).go i H ∧ ∃ Nx : Hp → Prop, (∀ H', Nx H' → ∃ m', m' < m ∧ W (i + 1) m' H') ∧ ∀ x H', (Itt K a).yld i H x H' → gName j x (wipe σ vs) H' fun σ2 H2 => wipe σ2 vs = wipe σ vs ∧ tt σ2 H2 fun b H3 =>
        if b = true then te σ2 H3 fun y H4 => ∃ acc, H4 D = some (.lst acc) ∧ acc.length < sizeLine ∧ Nx (L2.upd H4 D (.lst (acc ++ [y]))) else Nx H3) := by
  refine lc_tup (K := K) (a := a) (xs := xs) (fun i H' => Same H1 H' ∧ H' D = some (IL (((List.range i).filter kp).map f))) ⟨same_new hD _, upd_same⟩ (fun i H' _ h => ?_) ?_ ?_
  · exact Same.seqT h.1 hS
  · intro i x H hi h
    obtain ⟨h1, h2⟩ := h
    refine ⟨hw _, ?_⟩
    refine htt i _ H _ hi h1 fun H4 hs => ?_
    have hlt : i < xs.length := (List.getElem?_eq_some_iff.mp hi).1
    by_cases c : kp i = true
    · rw [if_pos c]
      refine hte i _ H4 _ hi c (h1.trans hs) fun H5 hs5 => ?_
      have e : H5 D = some (IL (((List.range i).filter kp).map f)) := hs5 D _ (hs D _ h2)
      have ez : (((List.range i).filter kp).map f).map V.int ++ [V.int (f i)] = (((List.range (i + 1)).filter kp).map f).map V.int := by
        rw [List.range_succ, List.filter_append, List.map_append, List.map_append]
        simp [c]
      refine ⟨_, e, ?_, fun b o hb => ?_, ?_⟩
      · rw [List.length_map, List.length_map]
        have := List.length_filter_le kp (List.range i)
        rw [List.length_range] at this
        exact line_lt (by omega)
      · rw [upd_ne (ne_of_none hb hD)]
        exact hs5 _ _ (hs _ _ (h1 b o hb))
      · rw [upd_same, ez]
        rfl
    · rw [if_neg c]
      refine ⟨h1.trans hs, ?_⟩
      rw [hs D _ h2, List.range_succ, List.filter_append]
      simp [c]
  · intro H h
    exact hd H h.1 h.2
/-! ### .. any values -/
theorem lc_rangeV {lo : Int} {n : Nat} {f : Nat → V} {j : Nat} {te : TE} {vs : List Nat} {σ : L2.St} {H1 : Hp} {D : Addr} {Qd : Hp → Prop} (hn : n ≤ 16777215) (hD : H1 D = none) (hw : ∀ v, wipe ((wipe σ vs).set j v) vs = wipe σ vs)
    (hte : ∀ i H3 (Q' : VK), i < n → Same H1 H3 → (∀ H4, Same H3 H4 → Q' (f i) H4) → te ((wipe σ vs).set j (some (.int (lo + (i : Nat))))) H3 Q')
    (hd : ∀ H', Same H1 H' → H' D = some (.lst ((List.range n).map f)) → Qd H') :
    ∃ W : Nat → Nat → Hp → Prop, (∃ m, W 0 m (L2.upd H1 D (.lst []))) ∧ ∀ i m H, W i m H →
      ((Itr lo n).stop i H ∧ Qd H) ∨ ((Itr lo n).go i H ∧ ∃ Nx : Hp → Prop, (∀ H', Nx H' → ∃ m', m' < m ∧ W (i + 1) m' H') ∧ ∀ x H', (Itr lo n).yld i H x H' → gName j x (wipe σ vs) H' fun σ2 H2 => wipe σ2 vs = wipe σ vs ∧ tYes σ2 H2 fun b H3 =>
        if b = true then te σ2 H3 fun y H4 => ∃ acc, H4 D = some (.lst acc) ∧ acc.length < sizeLine ∧ Nx (L2.upd H4 D (.lst (acc ++ [y]))) else Nx H3) := by
  refine lc_range (lo := lo) (n := n) (fun i H' => Same H1 H' ∧ H' D = some (.lst ((List.range i).map f))) ⟨same_new hD _, upd_same⟩ ?_ ?_
  · intro i H hi h
    obtain ⟨h1, h2⟩ := h
    refine ⟨hw _, ?_⟩
    simp only [tYes, if_true]
    refine hte i H _ hi h1 fun H4 hs => ?_
    have hlt : i < n := hi
    have e : H4 D = some (.lst ((List.range i).map f)) := hs D _ h2
    have ez : ((List.range i).map f) ++ [f i] = ((List.range (i + 1)).map f) := by rw [List.range_succ, List.map_append]; rfl
    refine ⟨_, e, by rw [List.length_map, List.length_range]; exact line_lt (by omega), fun b o hb => ?_, ?_⟩
    · rw [upd_ne (ne_of_none hb hD)]
      exact hs _ _ (h1 b o hb)
    · rw [upd_same, ez]
  · intro H h
    exact hd H h.1 h.2
theorem lc_rangeVF {lo : Int} {n : Nat} {f : Nat → V} {kp : Nat → Bool} {tt : TT} {j : Nat} {te : TE} {vs : List Nat} {σ : L2.St} {H1 : Hp} {D : Addr} {Qd : Hp → Prop} (hn : n ≤ 16777215) (hD : H1 D = none) (hw : ∀ v, wipe ((wipe σ vs).set j v) vs = wipe σ vs)
    (htt : ∀ i H3 (Q' : Bool → Hp → Prop), i < n → Same H1 H3 → (∀ H4, Same H3 H4 → Q' (kp i) H4) → tt ((wipe σ vs).set j (some (.int (lo + (i : Nat))))) H3 Q')
    (hte : ∀ i H3 (Q' : VK), i < n → kp i = true → Same H1 H3 → (∀ H4, Same H3 H4 → Q' (f i) H4) → te ((wipe σ vs).set j (some (.int (lo + (i : Nat))))) H3 Q')
    (hd : ∀ H', Same H1 H' → H' D = some (.lst (((List.range n).filter kp).map f)) → Qd H') :
    ∃ W : Nat → Nat → Hp → Prop, (∃ m, W 0 m (L2.upd H1 D (.lst []))) ∧ ∀ i m H, W i m H →
      ((Itr lo n).stop i H ∧ Qd H) ∨ ((Itr lo n).go i H ∧ ∃ Nx : Hp → Prop, (∀ H', Nx H' → ∃ m', m' < m ∧ W (i + 1) m' H') ∧ ∀ x H', (Itr lo n).yld i H x H' → gName j x (wipe σ vs) H' fun σ2 H2 => wipe σ2 vs = wipe σ vs ∧ tt σ2 H2 fun b H3 =>
        if b = true then te σ2 H3 fun y H4 => ∃ acc, H4 D = some (.lst acc) ∧ acc.length < sizeLine ∧ Nx (L2.upd H4 D (.lst (acc ++ [y]))) else Nx H3) := by
  refine lc_range (lo := lo) (n := n) (fun i H' => Same H1 H' ∧ H' D = some (.lst (((List.range i).filter kp).map f))) ⟨same_new hD _, upd_same⟩ ?_ ?_
  · intro i H hi h
    obtain ⟨h1, h2⟩ := h
    refine ⟨hw _, ?_⟩
    refine htt i H _ hi h1 fun H4 hs => ?_
    have hlt : i < n := hi
    by_cases c : kp i = true
    · rw [if_pos c]
      refine hte i H4 _ hi c (h1.trans hs) fun H5 hs5 => ?_
      have e : H5 D = some (.lst (((List.range i).filter kp).map f)) := hs5 D _ (hs D _ h2)
      have ez : (((List.range i).filter kp).map f) ++ [f i] = (((List.range (i + 1)).filter kp).map f) := by
        rw [List.range_succ, List.filter_append, List.map_append]
        simp [c]
      refine ⟨_, e, ?_, fun b o hb => ?_, ?_⟩
      · rw [List.length_map]
        have := List.length_filter_le kp (List.range i)
        rw [List.length_range] at this
        exact line_lt (by omega)
      · rw [upd_ne (ne_of_none hb hD)]
        exact hs5 _ _ (hs _ _ (h1 b o hb))
      · rw [upd_same, ez]
    · rw [if_neg c]
      refine ⟨h1.trans hs, ?_⟩
      rw [hs D _ h2, List.range_succ, List.filter_append]
      simp [c]
  · intro H h
    exact hd H h.1 h.2
theorem lc_listV {K : PySem.W.Frag} {a : Addr} {xs : List V} {f : Nat → V} {j : Nat} {te : TE} {vs : List Nat} {σ : L2.St} {H1 : Hp} {D : Addr} {Qd : Hp → Prop} (hn : xs.length ≤ 16777215) (hS : SqL K H1 a xs) (hD : H1 D = none) (hw : ∀ v, wipe ((wipe σ vs).set j v) vs = wipe σ vs)
    (hte : ∀ i x H3 (Q' : VK), xs[i]? = some x → Same H1 H3 → (∀ H4, Same H3 H4 → Q' (f i) H4) → te ((wipe σ vs).set j (some (x))) H3 Q')
    (hd : ∀ H', Same H1 H' → H' D = some (.lst ((List.range xs.length).map f)) → Qd H') :
    ∃ W : Nat → Nat → Hp → Prop, (∃ m, W 0 m (L2.upd H1 D (.lst []))) ∧ ∀ i m H, W i m H →
      ((Itl K a).stop i H ∧ Qd H) ∨ ((Itl K a).go i H ∧ ∃ Nx : Hp → Prop, (∀ H', Nx H' → ∃ m', m' < m ∧ W (i + 1) m' H') ∧ ∀ x H', (Itl K a).yld i H x H' → gName j x (wipe σ vs) H' fun σ2 H2 => wipe σ2 vs = wipe σ vs ∧ tYes σ2 H2 fun b H3 =>
        if b = true then te σ2 H3 fun y H4 => ∃ acc, H4 D = some (.lst acc) ∧ acc.length < sizeLine ∧ Nx (L2.upd H4 D (.lst (acc ++ [y]))) else Nx H3) := by
  refine lc_list (K := K) (a := a) (xs := xs) (fun i H' => Same H1 H' ∧ H' D = some (.lst ((List.range i).map f))) ⟨same_new hD _, upd_same⟩ (fun i H' _ h => ?_) ?_ ?_
  · exact Same.seq h.1 hS
  · intro i x H hi h
    obtain ⟨h1, h2⟩ := h
    refine ⟨hw _, ?_⟩
    simp only [tYes, if_true]
    refine hte i _ H _ hi h1 fun H4 hs => ?_
    have hlt : i < xs.length := (List.getElem?_eq_some_iff.mp hi).1
    have e : H4 D = some (.lst ((List.range i).map f)) := hs D _ h2
    have ez : ((List.range i).map f) ++ [f i] = ((List.range (i + 1)).map f) := by rw [List.range_succ, List.map_append]; rfl
    refine ⟨_, e, by rw [List.length_map, List.length_range]; exact line_lt (by omega), fun b o hb => ?_, ?_⟩
    · rw [upd_ne (ne_of_none hb hD)]
      exact hs _ _ (h1 b o hb)
    · rw [upd_same, ez]
  · intro H h
    exact hd H h.1 h.2
theorem lc_listVF {K : PySem.W.Frag} {a : Addr} {xs : List V} {f : Nat → V} {kp : Nat → Bool} {tt : TT} {j : Nat} {te : TE} {vs : List Nat} {σ : L2.St} {H1 : Hp} {D : Addr} {Qd : Hp → Prop} (hn : xs.length ≤ 16777215) (hS : SqL K H1 a xs) (hD : H1 D = none) (hw : ∀ v, wipe ((wipe σ vs).set j v) vs = wipe σ vs)
    (htt : ∀ i x H3 (Q' : Bool → Hp → Prop), xs[i]? = some x → Same H1 H3 → (∀ H4, Same H3 H4 → Q' (kp i) H4) → tt ((wipe σ vs).set j (some (x))) H3 Q')
    (hte : ∀ i x H3 (Q' : VK), xs[i]? = some x → kp i = true → Same H1 H3 → (∀ H4, Same H3 H4 → Q' (f i) H4) → te ((wipe σ vs).set j (some (x))) H3 Q')
    (hd : ∀ H', Same H1 H' → H' D = some (.lst (((List.range xs.length).filter kp).map f)) → Qd H') :
    ∃ W : Nat → Nat → Hp → Prop, (∃ m, W 0 m (L2.upd H1 D (.lst []))) ∧ ∀ i m H, W i m H →
      ((Itl K a).stop i H ∧ Qd H) ∨ ((Itl K a).go i H ∧ ∃ Nx : Hp → Prop, (∀ H', Nx H' → ∃ m', m' < m ∧ W (i + 1) m' H') ∧ ∀ x H', (Itl K a).yld i H x H' → gName j x (wipe σ vs) H' fun σ2 H2 => wipe σ2 vs = wipe σ vs ∧ tt σ2 H2 fun b H3 =>
        if b = true then te σ2 H3 fun y H4 => ∃ acc, H4 D = some (.lst acc) ∧ acc.length < sizeLine ∧ Nx (L2.upd H4 D (.lst (acc ++ [y]))) else Nx H3) := by
  refine lc_list (K := K) (a := a) (xs := xs) (fun i H' => Same H1 H' ∧ H' D = some (.lst (((List.range i).filter kp).map f))) ⟨same_new hD _, upd_same⟩ (fun i H' _ h => ?_) ?_ ?_
  · exact Same.seq h.1 hS
  · intro i x H hi h
    obtain ⟨h1, h2⟩ := h
    refine ⟨hw _, ?_⟩
    refine htt i _ H _ hi h1 fun H4 hs => ?_
    have hlt : i < xs.length := (List.getElem?_eq_some_iff.mp hi).1
    by_cases c : kp i = true
    · rw [if_pos c]
      refine hte i _ H4 _ hi c (h1.trans hs) fun H5 hs5 => ?_
      have e : H5 D = some (.lst (((List.range i).filter kp).map f)) := hs5 D _ (hs D _ h2)
      have ez : (((List.range i).filter kp).map f) ++ [f i] = (((List.range (i + 1)).filter kp).map f) := by
        rw [List.range_succ, List.filter_append, List.map_append]
        simp [c]
      refine ⟨_, e, ?_, fun b o hb => ?_, ?_⟩
      · rw [List.length_map]
        have := List.length_filter_le kp (List.range i)
        rw [List.length_range] at this
        exact line_lt (by omega)
      · rw [upd_ne (ne_of_none hb hD)]
        exact hs5 _ _ (hs _ _ (h1 b o hb))
      · rw [upd_same, ez]
    · rw [if_neg c]
      refine ⟨h1.trans hs, ?_⟩
      rw [hs D _ h2, List.range_succ, List.filter_append]
      simp [c]
  · intro H h
    exact hd H h.1 h.2
theorem lc_tupV {K : PySem.W.Frag} {a : Addr} {xs : List V} {f : Nat → V} {j : Nat} {te : TE} {vs : List Nat} {σ : L2.St} {H1 : Hp} {D : Addr} {Qd : Hp → Prop} (hn : xs.length ≤ 16777215) (hS : SqT K H1 a xs) (hD : H1 D = none) (hw : ∀ v, wipe ((wipe σ vs).set j v) vs = wipe σ vs)
    (hte : ∀ i x H3 (Q' : VK), xs[i]? = some x → Same H1 H3 → (∀ H4, Same H3 H4 → Q' (f i) H4) → te ((wipe σ vs).set j (some (x))) H3 Q')
    (hd : ∀ H', Same H1 H' → H' D = some (.lst ((List.range xs.length).map f)) → Qd H') :
    ∃ W : Nat → Nat → Hp → Prop, (∃ m, W 0 m (L2.upd H1 D (.lst []))) ∧ ∀ i m H, W i m H →
      ((Itt K a).stop i H ∧ Qd H) ∨ ((Itt K a).go i H ∧ ∃ Nx : Hp → Prop, (∀ H', Nx H' → ∃ m', m' < m ∧ W (i + 1) m' H') ∧ ∀ x H', (Itt K a).yld i H x H' → gName j x (wipe σ vs) H' fun σ2 H2 => wipe σ2 vs = wipe σ vs ∧ tYes σ2 H2 fun b H3 =>
        if b = true then te σ2 H3 fun y H4 => ∃ acc, H4 D = some (.lst acc) ∧ acc.length < sizeLine ∧ Nx (L2.upd H4 D (.lst (acc ++ [y]))) else Nx H3) := by
  refine lc_tup (K := K) (a := a) (xs := xs) (fun i H' => Same H1 H' ∧ H' D = some (.lst ((List.range i).map f))) ⟨same_new hD _, upd_same⟩ (fun i H' _ h => ?_) ?_ ?_
  · exact Same.seqT h.1 hS
  · intro i x H hi h
    obtain ⟨h1, h2⟩ := h
    refine ⟨hw _, ?_⟩
    simp only [tYes, if_true]
    refine hte i _ H _ hi h1 fun H4 hs => ?_
    have hlt : i < xs.length := (List.getElem?_eq_some_iff.mp hi).1
    have e : H4 D = some (.lst ((List.range i).map f)) := hs D _ h2
    have ez : ((List.range i).map f) ++ [f i] = ((List.range (i + 1)).map f) := by rw [List.range_succ, List.map_append]; rfl
    refine ⟨_, e, by rw [List.length_map, List.length_range]; exact line_lt (by omega), fun b o hb => ?_, ?_⟩
    · rw [upd_ne (ne_of_none hb hD)]
      exact hs _ _ (h1 b o hb)
    · rw [upd_same, ez]
  · intro H h
    exact hd H h.1 h.2
theorem lc_tupVF {K : PySem.W.Frag} {a : Addr} {xs : List V} {f : Nat → V} {kp : Nat → Bool} {tt : TT} {j : Nat} {te : TE} {vs : List Nat} {σ : L2.St} {H1 : Hp} {D : Addr} {Qd : Hp → Prop} (hn : xs.length ≤ 16777215) (hS : SqT K H1 a xs) (hD : H1 D = none) (hw : ∀ v, wipe ((wipe σ vs).set j v) vs = wipe σ vs)
    (htt : ∀ i x H3 (Q' : Bool → Hp → Prop), xs[i]? = some x → Same H1 H3 → (∀ H4, Same H3 H4 → Q' (kp i) H4) → tt ((wipe σ vs).set j (some (x))) H3 Q')
    (hte : ∀ i x H3 (Q' : VK), xs[i]? = some x → kp i = true → Same H1 H3 → (∀ H4, Same H3 H4 → Q' (f i) H4) → te ((wipe σ vs).set j (some (x))) H3 Q')
    (hd : ∀ H', Same H1 H' → H' D = some (.lst (((List.range xs.length).filter kp).map f)) → Qd H') :
    ∃ W : Nat → Nat → Hp → Prop, (∃ m, W 0 m (L2.upd H1 D (.lst []))) ∧ ∀ i m H, W i m H →
      ((Itt K a).stop i H ∧ Qd H) ∨ ((Itt K a).go i H ∧ ∃ Nx : Hp → Prop, (∀ H', Nx H' → ∃ m', m' < m ∧ W (i + 1) m' H') ∧ ∀ x H', (Itt K a).yld i H x H' → gName j x (wipe σ vs) H' fun σ2 H2 => wipe σ2 vs = wipe σ vs ∧ tt σ2 H2 fun b H3 =>
        if b = true then te σ2 H3 fun y H4 => ∃ acc, H4 D = some (.lst acc) ∧ acc.length < sizeLine ∧ Nx (L2.upd H4 D (.lst (acc ++ [y]))) else Nx H3) := by
  refine lc_tup (K := K) (a := a) (xs := xs) (fun i H' => Same H1 H' ∧ H' D = some (.lst (((List.range i).filter kp).map f))) ⟨same_new hD _, upd_same⟩ (fun i H' _ h => ?_) ?_ ?_
  · exact Same.seqT h.1 hS
  · intro i x H hi h
    obtain ⟨h1, h2⟩ := h
    refine ⟨hw _, ?_⟩
    refine htt i _ H _ hi h1 fun H4 hs => ?_
    have hlt : i < xs.length := (List.getElem?_eq_some_iff.mp hi).1
    by_cases c : kp i = true
    · rw [if_pos c]
      refine hte i _ H4 _ hi c (h1.trans hs) fun H5 hs5 => ?_
      have e : H5 D = some (.lst (((List.range i).filter kp).map f)) := hs5 D _ (hs D _ h2)
      have ez : (((List.range i).filter kp).map f) ++ [f i] = (((List.range (i + 1)).filter kp).map f) := by
        rw [List.range_succ, List.filter_append, List.map_append]
        simp [c]
      refine ⟨_, e, ?_, fun b o hb => ?_, ?_⟩
      · rw [List.length_map]
        have := List.length_filter_le kp (List.range i)
        rw [List.length_range] at this
        exact line_lt (by omega)
      · rw [upd_ne (ne_of_none hb hD)]
        exact hs5 _ _ (hs _ _ (h1 b o hb))
      · rw [upd_same, ez]
    · rw [if_neg c]
      refine ⟨h1.trans hs, ?_⟩
      rw [hs D _ h2, List.range_succ, List.filter_append]
      simp [c]
  · intro H h
    exact hd H h.1 h.2
def BL (bs : List Bool) : HO := .lst (bs.map V.bl)
def rAllB : List V → Hp → VK → Prop := fun vs H Q => ∃ (a : Addr) (bs : List Bool), vs = [V.ref a] ∧ H a = some (BL bs) ∧ Q (.bl (bs.all id)) H
def rAnyB : List V → Hp → VK → Prop := fun vs H Q => ∃ (a : Addr) (bs : List Bool), vs = [V.ref a] ∧ H a = some (BL bs) ∧ Q (.bl (bs.any id)) H
theorem cr_allB {X : Cx} (hc : X.calm = true) : CallR X (.builtin "all") rAllB := CallR.imp (cr_all hc) fun xs H Q h => by
  obtain ⟨a, bs, e, h1, q⟩ := h
  exact ⟨a, bs, e, .of h1, q⟩
theorem cr_anyB {X : Cx} (hc : X.calm = true) : CallR X (.builtin "any") rAnyB := CallR.imp (cr_any hc) fun xs H Q h => by
  obtain ⟨a, bs, e, h1, q⟩ := h
  exact ⟨a, bs, e, .of h1, q⟩
theorem BL_inj {a b : List Bool} : (BL a = BL b) = (a = b) := by
  apply propext
  constructor
  · intro h
    unfold BL at h
    injection h with h
    exact List.map_inj_right (fun x y e => V.bl.inj e) |>.mp h
  · intro h
    rw [h]
theorem BL_of {H : Hp} {D : Addr} {n : Nat} {f : Nat → Bool} (h : H D = some (.lst ((List.range n).map fun i => V.bl (f i)))) : H D = some (BL ((List.range n).map f)) := by
  rw [h]
  unfold BL
  rw [List.map_map]
  rfl
/-- all of the items of a list, by their places -/
theorem all_items {ns : List Int} {p : Int → Bool} : (((List.range ns.length).map fun i => p (ns.getD i 0)).all id) = ns.all p := by
  induction ns with
  | nil => rfl
  | cons n r ih =>
    rw [List.length_cons, List.range_succ_eq_map, List.map_cons, List.map_map, List.all_cons, List.all_cons, ← ih]
    rfl
end Dw

namespace Dw
open PySem PySem.Spec PyProof.Rows L2
/-! ### bits, FM, MFM -/
/-- a def of one list of ints that hands back a new one -/
def spL1 (C : List Int → Prop) (f : List Int → List Int) : Sp := fun vs H Q _ => ∃ (a : Addr) (ns : List Int), vs = [.ref a] ∧ H a = some (IL ns) ∧ C ns ∧ ∀ r H', Same H H' → H r = none → H' r = some (IL (f ns)) → Q (.ref r) H'
def CB (ns : List Int) : Prop := Bytes ns ∧ ns.length ≤ 100000
def bitsOf (ns : List Int) : List Int := (ns.map fun n => bits8 n.toNat).flatten
theorem bits8_len (v : Nat) : (bits8 v).length = 8 := rfl
theorem bitsOf_len : ∀ ns : List Int, (bitsOf ns).length = 8 * ns.length
  | [] => rfl
  | n :: r => by
    unfold bitsOf
    rw [List.map_cons, List.flatten_cons, List.length_append, bits8_len]
    have := bitsOf_len r
    unfold bitsOf at this
    rw [this, List.length_cons]
    omega
theorem bitsOf_more {ns : List Int} {i v : Nat} (h : ns[i]? = some (v : Int)) : bitsOf (ns.take (i + 1)) = bitsOf (ns.take i) ++ bits8 v := by
  unfold bitsOf
  rw [take_more h, List.map_append, List.flatten_append]
  simp
/-- each bit behind a 1 -/
def fmZ (bs : List Int) : List Int := (bs.map fun b => [1, b]).flatten
theorem fmZ_len : ∀ bs : List Int, (fmZ bs).length = 2 * bs.length
  | [] => rfl
  | n :: r => by
    unfold fmZ
    rw [List.map_cons, List.flatten_cons, List.length_append]
    have := fmZ_len r
    unfold fmZ at this
    rw [this, List.length_cons]
    show 2 + 2 * r.length = 2 * (r.length + 1)
    omega
theorem fmZ_more {bs : List Int} {i : Nat} {b : Int} (h : bs[i]? = some b) : fmZ (bs.take (i + 1)) = fmZ (bs.take i) ++ [1, b] := by
  unfold fmZ
  rw [take_more h, List.map_append, List.flatten_append]
  simp
def clk (last b : Int) : Int := if last = 0 ∧ b = 0 then 1 else 0
/-- the bit behind a beginning of a list -/
def lastOf (before : Int) (bs : List Int) : Int := bs.getLastD before
def mfmZ (before : Int) (bs : List Int) : List Int := (List.range bs.length).flatMap fun i => [clk (lastOf before (bs.take i)) (bs.getD i 0), bs.getD i 0]
/-- the loop's way: cells so far -/
def mfmF (before : Int) : List Int → List Int
  | [] => []
  | b :: r => clk before b :: b :: mfmF b r
theorem mfmF_len : ∀ (before : Int) (bs : List Int), (mfmF before bs).length = 2 * bs.length
  | _, [] => rfl
  | _, b :: r => by
    show (mfmF b r).length + 1 + 1 = 2 * (r.length + 1)
    rw [mfmF_len b r]
    omega
theorem mfmF_append : ∀ (before : Int) (bs cs : List Int), mfmF before (bs ++ cs) = mfmF before bs ++ mfmF (lastOf before bs) cs
  | _, [], _ => rfl
  | before, b :: r, cs => by
    show clk before b :: b :: mfmF b (r ++ cs) = clk before b :: b :: (mfmF b r ++ mfmF (lastOf before (b :: r)) cs)
    rw [mfmF_append b r cs]
    have : lastOf before (b :: r) = lastOf b r := by
      unfold lastOf
      cases r with
      | nil => rfl
      | cons x t => simp [List.getLastD]
    rw [this]
theorem mfmF_more {before : Int} {bs : List Int} {i : Nat} {b : Int} (h : bs[i]? = some b) : mfmF before (bs.take (i + 1)) = mfmF before (bs.take i) ++ [clk (lastOf before (bs.take i)) b, b] := by
  rw [take_more h, mfmF_append]
  rfl
theorem lastOf_more {before : Int} {bs : List Int} {i : Nat} {b : Int} (h : bs[i]? = some b) : lastOf before (bs.take (i + 1)) = b := by
  rw [take_more h]
  unfold lastOf
  simp
def spClk : Sp := fun vs H Q _ => ∃ a b : Int, vs = [.int a, .int b] ∧ Q (.int (clk a b)) H
def spMfm : Sp := fun vs H Q _ => ∃ (a : Addr) (ns : List Int) (b : Int), vs = [.ref a, .int b] ∧ H a = some (IL ns) ∧ CB ns ∧ ∀ r H', Same H H' → H r = none → H' r = some (IL (mfmF b (bitsOf ns))) → Q (.ref r) H'
theorem bit_div (v k : Nat) : Builtin.bitAnd ((v : Int) / 2 ^ k) 1 = ((v / 2 ^ k % 2 : Nat) : Int) := by rw [zdiv, and1]
end Dw
namespace Dw
open PySem PySem.Spec PyProof.Rows L2
def Bits (bs : List Int) : Prop := ∀ b ∈ bs, b = 0 ∨ b = 1
theorem bits8_bits (v : Nat) : Bits (bits8 v) := by
  intro b hb
  unfold bits8 at hb
  simp only [List.mem_cons, List.not_mem_nil, or_false] at hb
  rcases hb with h | h | h | h | h | h | h | h <;> (subst h; omega)
theorem bitsOf_bits : ∀ ns : List Int, Bits (bitsOf ns)
  | [] => fun b hb => by cases hb
  | n :: r => fun b hb => by
    unfold bitsOf at hb
    rw [List.map_cons, List.flatten_cons] at hb
    rcases List.mem_append.mp hb with hb | hb
    · exact bits8_bits _ b hb
    · exact bitsOf_bits r b hb
theorem bits_at {bs : List Int} {i : Nat} {z : Int} (h : Bits bs) (hz : bs[i]? = some z) : z = 0 ∨ z = 1 := h z (List.mem_of_getElem? hz)
theorem lastOf_bit {before : Int} {bs : List Int} (h0 : before = 0 ∨ before = 1) (h : Bits bs) : lastOf before bs = 0 ∨ lastOf before bs = 1 := by
  unfold lastOf
  cases bs with
  | nil => exact h0
  | cons b r =>
    have : (b :: r).getLastD before ∈ (b :: r) := by
      rw [List.getLastD_cons]
      cases r with
      | nil => exact List.mem_cons_self
      | cons x t =>
        have e : (x :: t).getLastD b = (x :: t).getLast (List.cons_ne_nil _ _) := by simp [List.getLastD]
        rw [e]
        exact List.mem_cons_of_mem _ (List.getLast_mem _)
    exact h _ this
theorem take_bits {bs : List Int} {k : Nat} (h : Bits bs) : Bits (bs.take k) := fun b hb => h b (List.mem_of_mem_take hb)
/-- int(last + bit == 0) -/
theorem clk_sum {a b : Int} (ha : a = 0 ∨ a = 1) (hb : b = 0 ∨ b = 1) : (if a + b = 0 then (1 : Int) else 0) = clk a b := by
  unfold clk
  rcases ha with rfl | rfl <;> rcases hb with rfl | rfl <;> decide
theorem dtl3 {H : Hp} {x y z : V} {d e f : PyData} (h1 : Dt H x d) (h2 : Dt H y e) (h3 : Dt H z f) : DtAll H [x, y, z] [d, e, f] := .cons h1 (.cons h2 (.cons h3 .nil))
theorem shaped_list3 {d e f : PyData} (h1 : d.canLay0 = true) (h2 : e.canLay0 = true) (h3 : f.canLay0 = true) (k1 : d.depth ≤ 6) (k2 : e.depth ≤ 6) (k3 : f.depth ≤ 6) : SeqAt.shaped (.list [d, e, f]) = true ∧ (PyData.list [d, e, f]).depth < 8 := by
  unfold SeqAt.shaped
  simp only [PyData.canLay0, PyData.canLayAll0, PyData.depth, PyData.depthAll, h1, h2, h3, Bool.and_true, Bool.true_and, decide_eq_true_eq]
  have : max d.depth (max e.depth (max f.depth 0)) ≤ 6 := by
    rw [Nat.max_le, Nat.max_le, Nat.max_le]
    exact ⟨k1, k2, k3, Nat.zero_le _⟩
  exact ⟨decide_eq_true (Nat.le_trans (Nat.succ_le_succ this) (by decide)), Nat.lt_of_le_of_lt (Nat.succ_le_succ this) (by decide)⟩
theorem lay_ints (ns : List Int) : (PyData.list (ns.map PyData.int)).canLay0 = true := by rw [PyData.canLay0]; exact canLay_ints ns
theorem dep6_ints (ns : List Int) : (PyData.list (ns.map PyData.int)).depth ≤ 6 := by
  have := depthAll_ints ns
  simp only [PyData.depth]
  omega
end Dw
namespace Dw
open PySem PySem.Spec PyProof.Rows L2
theorem IL_ne {H : Hp} {a b x : Addr} {ns : List Int} {r : List V} (h1 : H a = some (IL ns)) (h2 : H b = some (.lst (.ref x :: r))) : a ≠ b := by
  refine ne_of h1 h2 fun e => ?_
  unfold IL at e
  injection e with e
  cases ns with
  | nil => cases e
  | cons x t => rw [List.map_cons] at e; injection e with e _; cases e
theorem Pool.ne_len {H : Hp} {p q b : Addr} {xs : List V} (h : Pool H p q) (h2 : H b = some (.lst xs)) (hx : xs.length ≠ 5) : p ≠ b := by
  obtain ⟨ns, a, b', c, d, e, _⟩ := h
  refine ne_of e h2 fun z => hx ?_
  unfold PoolL at z
  injection z with z
  rw [← z]
  rfl
theorem Pool.ne_ref {H : Hp} {p q b x : Addr} {r : List V} (h : Pool H p q) (h2 : H b = some (.lst (.ref x :: r))) : q ≠ b := by
  obtain ⟨ns, a, b', c, d, e, e2, _⟩ := h
  exact IL_ne (ns := ns) e2 h2
end Dw

namespace Dw
open PySem PySem.Spec PyProof.Rows L2
/-- what the top says of an own error class over ValueError, without an __init__ of its own -/
structure ExcF (K : PySem.W.Frag) (mg : Str → Option Value) (x : Str) (C : Addr) : Prop where
  g : mg x = some (.ref C)
  x : PySem.W.excIn K C [.type "ValueError", .type "Exception", .type "BaseException", .type "object"] "ValueError.__new__" = true
  k : PySem.W.keepIn K (.ref C) = true
  b : PySem.W.subIn K (.ref C) (.type "BaseException") = some true
  t : PySem.W.typeIn K (.ref C) = some (.type "type")
  e : PySem.W.exmOne K (.ref C) (.ref C) = some true
theorem exm_selfD {K : PySem.W.Frag} {S : Addr} (h1 : PySem.W.subIn K (.ref S) (.type "BaseException") = some true) (h2 : PySem.W.isClsIn K S = true) (h3 : PySem.W.typeIn K (.ref S) = some (.type "type")) (h4 : PySem.W.subIn K (.ref S) (.ref S) = some true) :
    PySem.W.exmOne K (.ref S) (.ref S) = some true := by
  have e1 : (PySem.W.subIn K (.ref S) (.type "BaseException") == some true) = true := by rw [h1] <;> rfl
  have e2 : ((PySem.W.clsIn K S).isSome && PySem.W.typeIn K (.ref S) == some (.type "type")) = true := by
    have h2' : (PySem.W.clsIn K S).isSome = true := h2
    rw [h2', h3] <;> rfl
  show (if (PySem.W.subIn K (.ref S) (.type "BaseException") == some true) = true then (if ((PySem.W.clsIn K S).isSome && PySem.W.typeIn K (.ref S) == some (.type "type")) = true then PySem.W.subIn K (.ref S) (.ref S) else none) else none) = some true
  rw [if_pos e1, if_pos e2]
  exact h4
/-- an error of another class C, asked for the class S -/
theorem exm_otherD {K : PySem.W.Frag} {C S : Addr} {b : Bool} (h1 : PySem.W.subIn K (.ref S) (.type "BaseException") = some true) (h2 : PySem.W.isClsIn K S = true) (h3 : PySem.W.typeIn K (.ref S) = some (.type "type")) (h4 : PySem.W.subIn K (.ref C) (.ref S) = some b) :
    PySem.W.exmOne K (.ref C) (.ref S) = some b := by
  have e1 : (PySem.W.subIn K (.ref S) (.type "BaseException") == some true) = true := by rw [h1] <;> rfl
  have e2 : ((PySem.W.clsIn K S).isSome && PySem.W.typeIn K (.ref S) == some (.type "type")) = true := by
    have h2' : (PySem.W.clsIn K S).isSome = true := h2
    rw [h2', h3] <;> rfl
  show (if (PySem.W.subIn K (.ref S) (.type "BaseException") == some true) = true then (if ((PySem.W.clsIn K S).isSome && PySem.W.typeIn K (.ref S) == some (.type "type")) = true then PySem.W.subIn K (.ref C) (.ref S) else none) else none) = some b
  rw [if_pos e1, if_pos e2]
  exact h4
/-- isinstance(e, c) of a caught error: its class is told by the reading -/
def rIsX (K : PySem.W.Frag) (D a : Addr) (cls : Value) (d : Option Addr) : List V → Hp → VK → Prop := fun xs H Q => cls = .ref D ∧ d = none ∧ ∃ (c : Addr) (b : Bool), xs = [.ref a, .ref c] ∧ PySem.W.kitOne K (.ref D) (.ref c) = some b ∧ Q (.bl b) H
theorem call_isX {X : Cx} {a D : Addr} {oe : Obj} {pn : List (Addr × Obj)} {cls : Value} {d : Option Addr} (C : ExcC X.K D) (hz : Zc cls d oe) (hf : ∃ vs, oe.data = .fields vs) : CallR (X.suite a ((a, oe) :: pn)) (.builtin "isinstance") (rIsX X.K D a cls d) := by
  intro pins s σ H xs us Q I r h
  obtain ⟨rfl, rfl, c, b, e, k, q⟩ := h
  exact call_isE C hz hf pins s σ H xs us Q I r ⟨.ref c, .ref c, b, e, fun u hu => hu, k, q⟩
/-! ### C(..) within a try -/
section
variable {X : Cx} {CX : CXT} {k : Nat} {f C : Addr} {fd : FuncData} {ps : List Str} {sp : Sp} {E : L2.St → XK} {x : Str} {p pos : Pos} {e : Expr} {es : List Expr} {t : TA}
theorem run_makeS {pins : List (Addr × Obj)} {σ : L2.St} {H : Hp} {s : Shared} {Q : VK} {us : List Value} {vs : List V} (M : Mk X.K C f) (F : FnOk X.prog X.w X.K X.mg X.base CX k f fd ps sp) (hr : Room (k + 1) X.A) (hb : Binds X.K fd ps [])
    (hx : PassesAt CX X σ (E σ)) (I : Inv X pins σ H s) (r : Vals vs us)
    (h : ∀ x dx, H x = none → H dx = none → dx ≠ x → sp (.ref x :: vs) (upd (upd H dx (.own x)) x (.ins C dx [])) (fun v H2 => v = .non ∧ Q (.ref x) H2) (E σ)) :
    wpAny (model X.prog X.w) X.A (call (.ref C) us) (EP X pins σ Q) X.xe s := by
  have hq := h (s.heap.objs.size + 1) s.heap.objs.size (I.hok.fresh (Nat.le_succ _)) (I.hok.fresh (Nat.le_refl _)) (Nat.ne_of_lt (Nat.lt_succ_self _))
  have I2 := Inv.made (C := C) I
  have r2 : Vals (V.ref (s.heap.objs.size + 1) :: vs) (Value.ref (s.heap.objs.size + 1) :: us) := .cons rfl r
  have hl : ((Value.ref (s.heap.objs.size + 1) :: us) ++ []).length = ps.length := by
    have e := r2.length
    rw [F.len _ _ _ _ hq] at e
    rw [List.append_nil]
    exact e.symm
  have bt : BindsTo _ fd ⟨Value.ref (s.heap.objs.size + 1) :: us, []⟩ (ps.zip ((Value.ref (s.heap.objs.size + 1) :: us) ++ [])) := hb _ (Value.ref (s.heap.objs.size + 1) :: us) I2.kIn hl
  rw [List.append_nil] at bt
  refine wpAny_call (make_map (f := f) I.kIn M.makes M.init (beq_iff_eq.mp M.fn) (codeAny_mono (F.run _ X.stack _ _ ⟨Value.ref (s.heap.objs.size + 1) :: us, []⟩ (Value.ref (s.heap.objs.size + 1) :: us) _ _ (E σ) (hr.make C us [])
    (I2.env0.make C us []) bt r2 hq) fun r s' hq' => ?_))
  cases r with
  | error e => exact hx pins _ _ e s' I2 hq'
  | ok fl =>
    cases fl with
    | ret u =>
      obtain ⟨v, H', I3, rv, ev, q3⟩ := I2.after hq'
      subst ev
      exact ⟨rv, ⟨V.ref (s.heap.objs.size + 1), H', I3, rfl, q3⟩⟩
    | next => exact False.elim hq'
    | brk => exact False.elim hq'
    | cont => exact False.elim hq'
def tMakeS (C : Addr) (sp : Sp) (E : L2.St → XK) (t : TA) : TE := fun σ H Q => t σ H fun vs H1 => ∀ x dx, H1 x = none → H1 dx = none → dx ≠ x →
  sp (.ref x :: vs) (upd (upd H1 dx (.own x)) x (.ins C dx [])) (fun v H2 => v = .non ∧ Q (.ref x) H2) (E σ)
theorem pe_makeS (M : Mk X.K C f) (F : FnOk X.prog X.w X.K X.mg X.base CX k f fd ps sp) (hr : Room (k + 1) X.A) (hg : Gl X x) (hm : X.mg x = some (.ref C)) (hb : Binds X.K fd ps []) (hx : ∀ σ, PassesAt CX X σ (E σ))
    (ha : PA X (e :: es) t) (hdb : (x == ("__debug__" : Str)) = false := by decide) (he : starEach (e :: es) X.env = (false, eval e X.env) :: starEach es X.env := by rfl) (hpl : (backTo pos (starEach es X.env)).any (·.1) = false := by rfl) :
    PE X (.Call (.Name x p) (e :: es) [] pos) (tMakeS C sp E t) := by
  refine ⟨fun pins s σ H Q I h => ?_⟩
  refine wpAny_Call_Name_kw (ld_glob I hg hm ?_ hdb)
  refine PySem.W.callWith_K (h₀ := X.base) I.ok.mod.kin M.kp (thn (ha.run pos pins s σ H _ I h) fun us s1 ⟨vs, H1, I1, r, q⟩ => ⟨I1.kIn, ?_⟩) he hpl
  exact run_makeS M F hr hb (hx σ) I1 r q
/-! ### C(..) by a promise of the whole: conv turns it into that of __init__ at the new instance -/
def Conv (C : Addr) (sp rd : Sp) : Prop := ∀ vs H Q E, rd vs H Q E → ∀ x dx, H x = none → H dx = none → dx ≠ x → sp (.ref x :: vs) (upd (upd H dx (.own x)) x (.ins C dx [])) (fun v H2 => v = .non ∧ Q (.ref x) H2) E
def tMakeC (rd : Sp) (E : XK) (t : TA) : TE := fun σ H Q => t σ H fun vs H1 => rd vs H1 Q E
theorem pe_makeC {rd : Sp} {E : XK} (cv : Conv C sp rd) (M : Mk X.K C f) (F : FnOk X.prog X.w X.K X.mg X.base CX k f fd ps sp) (hr : Room (k + 1) X.A) (hg : Gl X x) (hm : X.mg x = some (.ref C)) (hb : Binds X.K fd ps []) (hx : Passes CX X E)
    (ha : PA X (e :: es) t) (hdb : (x == ("__debug__" : Str)) = false := by decide) (he : starEach (e :: es) X.env = (false, eval e X.env) :: starEach es X.env := by rfl) (hpl : (backTo pos (starEach es X.env)).any (·.1) = false := by rfl) :
    PE X (.Call (.Name x p) (e :: es) [] pos) (tMakeC rd E t) := by
  refine ⟨fun pins s σ H Q I h => ?_⟩
  refine wpAny_Call_Name_kw (ld_glob I hg hm ?_ hdb)
  refine PySem.W.callWith_K (h₀ := X.base) I.ok.mod.kin M.kp (thn (ha.run pos pins s σ H _ I h) fun us s1 ⟨vs, H1, I1, r, q⟩ => ⟨I1.kIn, ?_⟩) he hpl
  refine run_make (dvs := []) (ds := []) M F hr hb .nil hx I1 r ?_
  rw [List.append_nil]
  exact cv vs H1 Q E q
def tMakeSC (rd : Sp) (E : L2.St → XK) (t : TA) : TE := fun σ H Q => t σ H fun vs H1 => rd vs H1 Q (E σ)
theorem pe_makeSC {rd : Sp} (cv : Conv C sp rd) (M : Mk X.K C f) (F : FnOk X.prog X.w X.K X.mg X.base CX k f fd ps sp) (hr : Room (k + 1) X.A) (hg : Gl X x) (hm : X.mg x = some (.ref C)) (hb : Binds X.K fd ps []) (hx : ∀ σ, PassesAt CX X σ (E σ))
    (ha : PA X (e :: es) t) (hdb : (x == ("__debug__" : Str)) = false := by decide) (he : starEach (e :: es) X.env = (false, eval e X.env) :: starEach es X.env := by rfl) (hpl : (backTo pos (starEach es X.env)).any (·.1) = false := by rfl) :
    PE X (.Call (.Name x p) (e :: es) [] pos) (tMakeSC rd E t) := by
  refine ⟨fun pins s σ H Q I h => ?_⟩
  refine wpAny_Call_Name_kw (ld_glob I hg hm ?_ hdb)
  refine PySem.W.callWith_K (h₀ := X.base) I.ok.mod.kin M.kp (thn (ha.run pos pins s σ H _ I h) fun us s1 ⟨vs, H1, I1, r, q⟩ => ⟨I1.kIn, ?_⟩) he hpl
  exact run_makeS M F hr hb (hx σ) I1 r (cv vs H1 Q (E σ) q)
/-- what a caller's own wish takes of a callee that may raise -/
theorem passW {X : Cx} {W : WX} (tk : Takes X W) {E : XK} (hW : ∀ cls d σ H, E cls d H → W cls d σ H) : Passes (L2.CX X.prog X.w) X E := passes_call tk hW
end
theorem cxOf_K {CX : CXT} {P : Program} {w : World} {K : PySem.W.Frag} {mg : Str → Option Value} {base : Heap} {N : List Str} {qual : Str} {scope : Scope} {f : Addr} {cd : Value} {A : Around} {outer : List Env} {s : Shared} {H : Hp} {E : XK} :
    (cxOf CX P w K mg base N qual scope f cd A outer s H E).K = K := rfl
theorem nox_K {X : Cx} : X.nox.K = X.K := rfl
theorem tr_K {X : Cx} {pn : List (Addr × Obj)} {xe : Value → Shared → Prop} : (X.tr pn xe).K = X.K := rfl
theorem suite_K {X : Cx} {a : Addr} {pn : List (Addr × Obj)} : (X.suite a pn).K = X.K := rfl
end Dw

namespace Dw
open PySem PySem.Spec PyProof.Rows L2
/-! ### the laws' own small defs -/
def rTupleI : List V → Hp → VK → Prop := fun xs H Q => ∃ p ns, xs = [.ref p] ∧ H p = some (IL ns) ∧ ∀ l, H l = none → Q (.ref l) (upd H l (.tup (ns.map V.int)))
theorem call_tupleI {X : Cx} : CallR X (.type "tuple") rTupleI := CallR.imp call_tuple_of fun xs H Q h => by
  obtain ⟨p, ns, e, h1, q⟩ := h
  exact ⟨p, _, e, .inl ⟨.of h1, q⟩⟩
/-- an item of the script, or 0 -/
def spCell (K : PySem.W.Frag) : Sp := fun vs H Q _ => ∃ (a : Addr) (ns : List Int) (k : Int), vs = [.ref a, .int k] ∧ SqL K H a (ns.map V.int) ∧ 0 ≤ k ∧ ∀ z, Q (.int z) H
def D12 (ns : List Int) : Prop := ∀ z ∈ ns, 0 ≤ z ∧ z < 4096
def spDraws : Sp := fun vs H Q _ => ∃ (c n : Int), vs = [.int c, .int n] ∧ 0 ≤ n ∧ n ≤ 1000 ∧ ∀ r ns H', Same H H' → H r = none → H' r = some (IL ns) → (ns.length : Int) = n → D12 ns → Q (.ref r) H'
def spIsInt : Sp := fun vs H Q _ => ∃ i : Int, vs = [.int i] ∧ Q (.bl true) H
def spInts : Sp := fun vs H Q _ => ∃ (p : Addr) (ns : List Int), ((vs = [.ref p, .str "list"] ∧ H p = some (IL ns)) ∨ (vs = [.ref p, .str "tuple"] ∧ H p = some (.tup (ns.map V.int)))) ∧ Q (.bl true) H
def spIsList : Sp := fun vs H Q _ => ∃ (p u : Addr) (ns : List Int), vs = [.ref p, .ref u] ∧ H p = some (IL ns) ∧ H u = some (IL ns) ∧ Q (.bl true) H
def spIsTuple : Sp := fun vs H Q _ => ∃ (p u : Addr) (ns : List Int), vs = [.ref p, .ref u] ∧ H p = some (.tup (ns.map V.int)) ∧ H u = some (.tup (ns.map V.int)) ∧ Q (.bl true) H
def spIsNumber : Sp := fun vs H Q _ => ∃ i : Int, vs = [.int i, .int i] ∧ Q (.bl true) H
theorem getD_mem {ns : List Int} {k : Nat} (h : k < ns.length) : ns.getD k 0 ∈ ns := by
  rw [List.getD_eq_getElem?_getD, List.getElem?_eq_getElem h]
  exact List.getElem_mem h
theorem D12.get {ns : List Int} (h : D12 ns) {k : Nat} (hk : k < ns.length) : 0 ≤ ns.getD k 0 ∧ ns.getD k 0 < 4096 := h _ (getD_mem hk)
/-! ### reads -/
def readF (t : Addr) (r : Int) : List (Str × V) := [("intervals", .ref t), ("rest", .int r)]
theorem rf_int (t : Addr) (r : Int) : List.lookup ("intervals" : Str) (readF t r) = some (.ref t) := by
  unfold readF
  simp [List.lookup]
theorem rf_rest (t : Addr) (r : Int) : List.lookup ("rest" : Str) (readF t r) = some (.int r) := by
  have e : (("rest" : Str) == ("intervals" : Str)) = false := by decide +kernel
  unfold readF
  simp [List.lookup, e]
theorem rf_put (t : Addr) (r : Int) : putF "rest" (.int r) (putF "intervals" (.ref t) []) = readF t r := by
  have e : ¬ ("intervals" : Str) = "rest" := by decide +kernel
  show putF "rest" (.int r) [("intervals", .ref t)] = _
  unfold putF
  rw [if_neg e]
  rfl
def OkRead (ns : List Int) (rest : Int) : Prop := ns.length ≤ 60000 ∧ (∀ t ∈ ns, 1 ≤ t ∧ t ≤ 1000000) ∧ 0 ≤ rest ∧ rest ≤ 1000000
/-- a read at r -/
def RdAt (C : Addr) (H : Hp) (r : Addr) (ns : List Int) (rest : Int) : Prop := ∃ dx t, H r = some (.ins C dx (readF t rest)) ∧ H t = some (.tup (ns.map V.int))
theorem RdAt.same {C : Addr} {H H' : Hp} {r : Addr} {ns : List Int} {rest : Int} (h : RdAt C H r ns rest) (s : Same H H') : RdAt C H' r ns rest := by
  obtain ⟨dx, t, h1, h2⟩ := h
  exact ⟨dx, t, s _ _ h1, s _ _ h2⟩
def spReadInit (C CE : Addr) : Sp := fun vs H Q E => ∃ (x dx a : Addr) (ns : List Int) (rest : Int), vs = [.ref x, .ref a, .int rest] ∧ H x = some (.ins C dx []) ∧ H a = some (IL ns) ∧
  (OkRead ns rest → ∀ t H', H x ≠ none → SameB x H H' → H t = none → H' x = some (.ins C dx (readF t rest)) → H' t = some (.tup (ns.map V.int)) → Q .non H') ∧
  (¬ OkRead ns rest → ∀ H', Same H H' → E (.ref CE) none H')
/-- Read(intervals, rest) -/
def spRead (C CE : Addr) : Sp := fun vs H Q E => ∃ (a : Addr) (ns : List Int) (rest : Int), vs = [.ref a, .int rest] ∧ H a = some (IL ns) ∧
  (OkRead ns rest → ∀ r H', Same H H' → H r = none → RdAt C H' r ns rest → Q (.ref r) H') ∧ (¬ OkRead ns rest → ∀ H', Same H H' → E (.ref CE) none H')
theorem conv_read {C CE : Addr} : Conv C (spReadInit C CE) (spRead C CE) := by
  intro vs H Q E ⟨a, ns, rest, e, hA, h1, h2⟩ x dx nx nd ne
  subst e
  have s0 : Same H (upd H dx (.own x)) := same_new nd _
  have nx' : upd H dx (.own x) x = none := by rw [upd_ne ne.symm]; exact nx
  have s1 : Same (upd H dx (.own x)) (upd (upd H dx (.own x)) x (.ins C dx [])) := same_new nx' _
  have s := s0.trans s1
  refine ⟨x, dx, a, ns, rest, rfl, upd_same, s _ _ hA, fun ok t H' _ sb nt e1 e2 => ⟨rfl, h1 ok x H' (fun b o hb => sb b o (ne_of_none hb nx) (s b o hb)) nx ⟨dx, t, e1, e2⟩⟩, fun no H' sH => h2 no H' (s.trans sH)⟩
def okCell (c : Int) : Prop := 10 ≤ c ∧ c ≤ 1000
def spIsCell : Sp := fun vs H Q _ => ∃ c : Int, vs = [.int c] ∧ Q (.bl (decide (10 ≤ c) && decide (c ≤ 1000))) H
def spCheckCell (CE : Addr) : Sp := fun vs H Q E => ∃ c : Int, vs = [.int c] ∧ (okCell c → Q .non H) ∧ (¬ okCell c → E (.ref CE) none H)
/-! ### the fixed clock -/
/-- how many cells t ticks stand for -/
def nCells (t c : Int) : Int := (2 * t + c) / (2 * c)
def oneCells (n : Int) : List Int := List.replicate (n - 1).toNat 0 ++ [1]
def fixedZ (ns : List Int) (rest c : Int) : List Int := (ns.map fun t => oneCells (max 1 (nCells t c))).flatten ++ List.replicate (nCells rest c).toNat 0
def fixedP (ns : List Int) (c : Int) : List Int := (ns.map fun t => oneCells (max 1 (nCells t c))).flatten
theorem fixedP_more {ns : List Int} {i : Nat} {t c : Int} (h : ns[i]? = some t) : fixedP (ns.take (i + 1)) c = fixedP (ns.take i) c ++ oneCells (max 1 (nCells t c)) := by
  unfold fixedP
  rw [take_more h, List.map_append, List.flatten_append]
  simp
theorem oneCells_len {n : Int} (h : 1 ≤ n) : ((oneCells n).length : Int) = n := by
  unfold oneCells
  rw [List.length_append, List.length_replicate]
  show (((n - 1).toNat + 1 : Nat) : Int) = n
  omega
/-- the sum of the counts stays small -/
def Few (ns : List Int) (rest c : Int) : Prop := ((fixedP ns c).length : Int) + nCells rest c ≤ 16000000
def spFixed (C CE : Addr) : Sp := fun vs H Q E => ∃ (r : Addr) (c : Int) (ns : List Int) (rest : Int), vs = [.ref r, .int c] ∧ RdAt C H r ns rest ∧ OkRead ns rest ∧
  (okCell c → Few ns rest c ∧ ∀ u H', Same H H' → H u = none → H' u = some (IL (fixedZ ns rest c)) → Q (.ref u) H') ∧ (¬ okCell c → E (.ref CE) none H)
theorem take_len_le {α : Type} (l : List α) (i : Nat) : (l.take i).length ≤ l.length := by rw [List.length_take]; exact Nat.min_le_right _ _
theorem fixedP_take_len (ns : List Int) (c : Int) (i : Nat) : (fixedP (ns.take i) c).length ≤ (fixedP ns c).length := by
  have e : fixedP ns c = fixedP (ns.take i) c ++ fixedP (ns.drop i) c := by
    unfold fixedP
    rw [← List.flatten_append, ← List.map_append, List.take_append_drop]
  rw [e, List.length_append]
  omega
end Dw
namespace Dw
theorem ite_t {c : Bool} {A B : Prop} (hc : c = true) (h : A) : if c = true then A else B := by
  rw [if_pos hc]
  exact h
theorem ite_f {c : Bool} {A B : Prop} (hc : c = false) (h : B) : if c = true then A else B := by
  rw [hc, if_neg Bool.false_ne_true]
  exact h
end Dw
namespace Dw
open PySem PySem.Spec PyProof.Rows L2
theorem fld_of {K : PySem.W.Frag} {C dx r t : Addr} {rest : Int} {H : Hp} {i : Nat} {σ : L2.St} {Q : VK} (hσ : σ[i]? = some (some (.ref r))) (hR : H r = some (.ins C dx (readF t rest))) (cl : Cls K C) (na : NoAttr K C "intervals") (q : Q (.ref t) H) : tFld K (tVar i) "intervals" σ H Q :=
  ⟨_, hσ, r, C, dx, _, _, rfl, hR, cl, na, rf_int t rest, q⟩
theorem fld_rest {K : PySem.W.Frag} {C dx r t : Addr} {rest : Int} {H : Hp} {i : Nat} {σ : L2.St} {Q : VK} (hσ : σ[i]? = some (some (.ref r))) (hR : H r = some (.ins C dx (readF t rest))) (cl : Cls K C) (na : NoAttr K C "rest") (q : Q (.int rest) H) : tFld K (tVar i) "rest" σ H Q :=
  ⟨_, hσ, r, C, dx, _, _, rfl, hR, cl, na, rf_rest t rest, q⟩
theorem upd_self {H : Hp} {a : Addr} {o u : HO} : upd (upd H a o) a u a = some u := upd_same
theorem rep_zero (n : Int) : rep n [0] = List.replicate n.toNat 0 := rep_one n 0
theorem nCells_nn {t c : Int} (ht : 0 ≤ t) (hc : 0 < c) : 0 ≤ nCells t c := Int.ediv_nonneg (by omega) (by omega)
end Dw
namespace Dw
open PySem PySem.Spec PyProof.Rows L2
theorem oneCells_nat {n : Int} (h : 1 ≤ n) : (oneCells n).length = (n - 1).toNat + 1 := by
  unfold oneCells
  rw [List.length_append, List.length_replicate]
  rfl
end Dw
namespace Dw
theorem pick2 {P : Int → Prop} {a b : Int} (ha : P a) (hb : P b) {i : Nat} (h : i < 2) : P ([a, b].getD i 0) := by
  match i, h with
  | 0, _ => exact ha
  | 1, _ => exact hb
theorem pick3 {P : Int → Prop} {a b c : Int} (ha : P a) (hb : P b) (hc : P c) {i : Nat} (h : i < 3) : P ([a, b, c].getD i 0) := by
  match i, h with
  | 0, _ => exact ha
  | 1, _ => exact hb
  | 2, _ => exact hc
theorem pick4 {P : Int → Prop} {a b c d : Int} (ha : P a) (hb : P b) (hc : P c) (hd : P d) {i : Nat} (h : i < 4) : P ([a, b, c, d].getD i 0) := by
  match i, h with
  | 0, _ => exact ha
  | 1, _ => exact hb
  | 2, _ => exact hc
  | 3, _ => exact hd
end Dw
namespace Dw
open PySem PySem.Spec PyProof.Rows L2
theorem fixedP_len_le {c : Int} {M : Nat} (hM : 1 ≤ M) : ∀ {ns : List Int}, (∀ t ∈ ns, nCells t c ≤ (M : Int)) → (fixedP ns c).length ≤ ns.length * M
  | [], _ => Nat.zero_le _
  | t :: r, h => by
    have ih := fixedP_len_le (c := c) hM (ns := r) fun x hx => h x (List.mem_cons_of_mem _ hx)
    have ht := h t List.mem_cons_self
    have e : fixedP (t :: r) c = oneCells (max 1 (nCells t c)) ++ fixedP r c := by
      unfold fixedP
      rw [List.map_cons, List.flatten_cons]
    rw [e, List.length_append, oneCells_nat (by omega), List.length_cons, Nat.succ_mul]
    omega
theorem nCells_le {t c m : Int} (hc : 0 < c) (h : t ≤ m * c) : nCells t c ≤ m := by
  unfold nCells
  have : (2 * t + c) / (2 * c) < m + 1 := Int.ediv_lt_of_lt_mul (by omega) (by
    have e1 : (m + 1) * (2 * c) = 2 * (m * c) + 2 * c := by rw [Int.add_mul, Int.one_mul, Int.mul_left_comm]
    rw [e1]
    omega)
  omega
theorem oneCells_split (n : Int) : List.replicate (n - 1).toNat 0 ++ [1] = oneCells n := rfl
end Dw
namespace Dw
open PySem PySem.Spec PyProof.Rows L2
/-! ### cells as flux -/
def fluxT (c : Int) (s : List Int × Int) (b : Int) : List Int × Int := if b = 1 then (s.1 ++ [c * (s.2 + 1)], 0) else (s.1, s.2 + 1)
def fluxS (c : Int) (cells : List Int) : List Int × Int := cells.foldl (fluxT c) ([], 0)
theorem fluxS_more {c : Int} {cells : List Int} {i : Nat} {b : Int} (h : cells[i]? = some b) : fluxS c (cells.take (i + 1)) = fluxT c (fluxS c (cells.take i)) b := by
  unfold fluxS
  rw [take_more h, List.foldl_append]
  rfl
theorem fluxT_len {c : Int} (s : List Int × Int) (b : Int) : (fluxT c s b).1.length ≤ s.1.length + 1 ∧ 0 ≤ (fluxT c s b).2 ∨ s.2 < 0 := by
  unfold fluxT
  by_cases h : b = 1
  · rw [if_pos h]
    exact .inl ⟨by rw [List.length_append]; exact Nat.le_refl _, Int.le_refl 0⟩
  · rw [if_neg h]
    by_cases h2 : s.2 < 0
    · exact .inr h2
    · exact .inl ⟨Nat.le_succ _, by show 0 ≤ s.2 + 1; omega⟩
theorem fluxS_bound (c : Int) (cells : List Int) : ∀ i, i ≤ cells.length → (fluxS c (cells.take i)).1.length ≤ i ∧ 0 ≤ (fluxS c (cells.take i)).2 ∧ (fluxS c (cells.take i)).2 ≤ i
  | 0, _ => ⟨Nat.le_refl _, Int.le_refl _, Int.le_refl _⟩
  | i + 1, h => by
    obtain ⟨h1, h2, h3⟩ := fluxS_bound c cells i (by omega)
    have e : cells[i]? = some (cells[i]'(by omega)) := List.getElem?_eq_getElem (by omega)
    rw [fluxS_more e]
    unfold fluxT
    split
    · refine ⟨by rw [List.length_append]; show _ + 1 ≤ _; omega, Int.le_refl _, by show (0 : Int) ≤ _; omega⟩
    · exact ⟨by show (fluxS c (List.take i cells)).1.length ≤ i + 1; omega, by show 0 ≤ (fluxS c (List.take i cells)).2 + 1; omega, by show (fluxS c (List.take i cells)).2 + 1 ≤ ((i + 1 : Nat) : Int); omega⟩
def spFlux (C CE CR : Addr) : Sp := fun vs H Q E => ∃ (a : Addr) (c : Int) (cells : List Int), vs = [.ref a, .int c] ∧ H a = some (IL cells) ∧ cells.length ≤ 1000000 ∧
  (okCell c → OkRead (fluxS c cells).1 (c * (fluxS c cells).2) → ∀ r H', Same H H' → H r = none → RdAt C H' r (fluxS c cells).1 (c * (fluxS c cells).2) → Q (.ref r) H') ∧
  (okCell c → ¬ OkRead (fluxS c cells).1 (c * (fluxS c cells).2) → ∀ H', Same H H' → E (.ref CR) none H') ∧ (¬ okCell c → E (.ref CE) none H)
/-! ### ints that are only known to be of a kind -/
theorem lc_rangeP {R : Int → Prop} {lo : Int} {n : Nat} {j : Nat} {te : TE} {vs : List Nat} {σ : L2.St} {H1 : Hp} {D : Addr} {Qd : Hp → Prop} (hn : n ≤ 16777215) (hD : H1 D = none) (hw : ∀ v, wipe ((wipe σ vs).set j v) vs = wipe σ vs)
    (hte : ∀ i H3 (Q' : VK), i < n → Same H1 H3 → (∀ v H4, R v → Same H3 H4 → Q' (.int v) H4) → te ((wipe σ vs).set j (some (.int (lo + (i : Nat))))) H3 Q')
    (hd : ∀ ns H', ns.length = n → (∀ v ∈ ns, R v) → Same H1 H' → H' D = some (IL ns) → Qd H') :
    ∃ W : Nat → Nat → Hp → Prop, (∃ m, W 0 m (L2.upd H1 D (.lst []))) ∧ ∀ i m H, W i m H →
      ((Itr lo n).stop i H ∧ Qd H) ∨ ((Itr lo n).go i H ∧ ∃ Nx : Hp → Prop, (∀ H', Nx H' → ∃ m', m' < m ∧ W (i + 1) m' H') ∧ ∀ x H', (Itr lo n).yld i H x H' → gName j x (wipe σ vs) H' fun σ2 H2 => wipe σ2 vs = wipe σ vs ∧ tYes σ2 H2 fun b H3 =>
        if b = true then te σ2 H3 fun y H4 => ∃ acc, H4 D = some (.lst acc) ∧ acc.length < sizeLine ∧ Nx (L2.upd H4 D (.lst (acc ++ [y]))) else Nx H3) := by
  refine lc_range (lo := lo) (n := n) (fun i H' => Same H1 H' ∧ ∃ ns : List Int, H' D = some (IL ns) ∧ ns.length = i ∧ ∀ v ∈ ns, R v) ⟨same_new hD _, [], upd_same, rfl, fun v h => by cases h⟩ ?_ ?_
  · intro i H hi h
    obtain ⟨h1, ns, h3, h4, h5⟩ := h
    refine ⟨hw _, ?_⟩
    simp only [tYes, if_true]
    refine hte i H _ hi h1 fun v H4 hR hs => ?_
    have e : H4 D = some (IL ns) := hs D _ h3
    have ez : ns.map V.int ++ [V.int v] = (ns ++ [v]).map V.int := by rw [List.map_append]; rfl
    refine ⟨ns.map V.int, e, by rw [List.length_map, h4]; exact line_lt (by omega), fun b o hb => ?_, ns ++ [v], ?_, by rw [List.length_append, h4]; rfl, ?_⟩
    · rw [upd_ne (ne_of_none hb hD)]
      exact hs _ _ (h1 b o hb)
    · rw [upd_same, ez]
      rfl
    · intro x hx
      rcases List.mem_append.mp hx with hx | hx
      · exact h5 x hx
      · rw [List.mem_singleton.mp hx]; exact hR
  · intro H h
    obtain ⟨h1, ns, h3, h4, h5⟩ := h
    exact hd ns H h4 h5 h1 h3
end Dw

namespace K08
open PySem PySem.Spec PyProof.Rows L2 Dw
def topS (i : Nat) : Stmt := PySem.Challenge.pw_discwright_k08_weak_and_steady_cells.main.body.getD i (.Pass ⟨0, 0, 0, 0⟩)
abbrev s_shortest_length : Stmt := topS 4
abbrev n_shortest_length : List Str := ["lists", "cells"]
theorem sc_shortest_length : FnScope n_shortest_length ["lists"] (defScope s_shortest_length) := ⟨rfl, rfl, rfl, by decide +kernel, rfl, by decide +kernel, by decide +kernel⟩
abbrev s_weak_places : Stmt := topS 5
abbrev n_weak_places : List Str := ["lists", "count", "at", "cells"]
theorem sc_weak_places : FnScope n_weak_places ["lists"] (defScope s_weak_places) := ⟨rfl, rfl, rfl, by decide +kernel, rfl, by decide +kernel, by decide +kernel⟩
abbrev s_steady_cells : Stmt := topS 6
abbrev n_steady_cells : List Str := ["lists", "count", "ones", "cells", "at", "many"]
theorem sc_steady_cells : FnScope n_steady_cells ["lists"] (defScope s_steady_cells) := ⟨rfl, rfl, rfl, by decide +kernel, rfl, by decide +kernel, by decide +kernel⟩
abbrev s_law_cell : Stmt := topS 8
abbrev n_law_cell : List Str := ["script", "k"]
theorem sc_law_cell : FnScope n_law_cell ["script", "k"] (defScope s_law_cell) := ⟨rfl, rfl, rfl, by decide +kernel, rfl, by decide +kernel, by decide +kernel⟩
abbrev s_law_draws : Stmt := topS 9
abbrev n_law_draws : List Str := ["cell", "count", "rows", "left", "k", "mixed"]
theorem sc_law_draws : FnScope n_law_draws ["cell", "count"] (defScope s_law_draws) := ⟨rfl, rfl, rfl, by decide +kernel, rfl, by decide +kernel, by decide +kernel⟩
abbrev s_law_is_int : Stmt := topS 10
abbrev n_law_is_int : List Str := ["x"]
theorem sc_law_is_int : FnScope n_law_is_int ["x"] (defScope s_law_is_int) := ⟨rfl, rfl, rfl, by decide +kernel, rfl, by decide +kernel, by decide +kernel⟩
abbrev s_law_ints : Stmt := topS 11
abbrev n_law_ints : List Str := ["x", "kind", "k"]
theorem sc_law_ints : FnScope n_law_ints ["x", "kind"] (defScope s_law_ints) := ⟨rfl, rfl, rfl, by decide +kernel, rfl, by decide +kernel, by decide +kernel⟩
abbrev s_law_is_list : Stmt := topS 12
abbrev n_law_is_list : List Str := ["x", "due"]
theorem sc_law_is_list : FnScope n_law_is_list ["x", "due"] (defScope s_law_is_list) := ⟨rfl, rfl, rfl, by decide +kernel, rfl, by decide +kernel, by decide +kernel⟩
abbrev s_law_bad : Stmt := topS 13
abbrev n_law_bad : List Str := ["way"]
theorem sc_law_bad : FnScope n_law_bad ["way"] (defScope s_law_bad) := ⟨rfl, rfl, rfl, by decide +kernel, rfl, by decide +kernel, by decide +kernel⟩
abbrev s_law : Stmt := topS 14
abbrev n_law : List Str := ["script", "draws", "base", "k", "lists", "row", "at", "flip", "least", "weak", "steady", "ones", "handed"]
theorem sc_law : FnScope n_law ["script"] (defScope s_law) := ⟨rfl, rfl, rfl, by decide +kernel, rfl, by decide +kernel, by decide +kernel⟩
/-- where the defs stand -/
structure Ad where
  f_shortest_length : Addr
  d_shortest_length : FuncData
  f_weak_places : Addr
  d_weak_places : FuncData
  f_steady_cells : Addr
  d_steady_cells : FuncData
  f_law_cell : Addr
  d_law_cell : FuncData
  f_law_draws : Addr
  d_law_draws : FuncData
  f_law_is_int : Addr
  d_law_is_int : FuncData
  f_law_ints : Addr
  d_law_ints : FuncData
  f_law_is_list : Addr
  d_law_is_list : FuncData
  f_law_bad : Addr
  d_law_bad : FuncData
  f_law : Addr
  d_law : FuncData
  c_DifferentLengths : Addr
/-- what the top has written -/
structure Tx (K : PySem.W.Frag) (mg : Str → Option Value) (A : Ad) : Prop where
  F_shortest_length : Fun K "shortest_length" "shortest_length" s_shortest_length A.f_shortest_length A.d_shortest_length
  b_shortest_length : Binds K A.d_shortest_length ["lists"] []
  g_shortest_length : mg "shortest_length" = some (.ref A.f_shortest_length)
  F_weak_places : Fun K "weak_places" "weak_places" s_weak_places A.f_weak_places A.d_weak_places
  b_weak_places : Binds K A.d_weak_places ["lists"] []
  g_weak_places : mg "weak_places" = some (.ref A.f_weak_places)
  F_steady_cells : Fun K "steady_cells" "steady_cells" s_steady_cells A.f_steady_cells A.d_steady_cells
  b_steady_cells : Binds K A.d_steady_cells ["lists"] []
  g_steady_cells : mg "steady_cells" = some (.ref A.f_steady_cells)
  F_law_cell : Fun K "_law_cell" "_law_cell" s_law_cell A.f_law_cell A.d_law_cell
  b_law_cell : Binds K A.d_law_cell ["script", "k"] []
  g_law_cell : mg "_law_cell" = some (.ref A.f_law_cell)
  F_law_draws : Fun K "_law_draws" "_law_draws" s_law_draws A.f_law_draws A.d_law_draws
  b_law_draws : Binds K A.d_law_draws ["cell", "count"] []
  g_law_draws : mg "_law_draws" = some (.ref A.f_law_draws)
  F_law_is_int : Fun K "_law_is_int" "_law_is_int" s_law_is_int A.f_law_is_int A.d_law_is_int
  b_law_is_int : Binds K A.d_law_is_int ["x"] []
  g_law_is_int : mg "_law_is_int" = some (.ref A.f_law_is_int)
  F_law_ints : Fun K "_law_ints" "_law_ints" s_law_ints A.f_law_ints A.d_law_ints
  b_law_ints : Binds K A.d_law_ints ["x", "kind"] []
  g_law_ints : mg "_law_ints" = some (.ref A.f_law_ints)
  F_law_is_list : Fun K "_law_is_list" "_law_is_list" s_law_is_list A.f_law_is_list A.d_law_is_list
  b_law_is_list : Binds K A.d_law_is_list ["x", "due"] []
  g_law_is_list : mg "_law_is_list" = some (.ref A.f_law_is_list)
  F_law_bad : Fun K "_law_bad" "_law_bad" s_law_bad A.f_law_bad A.d_law_bad
  b_law_bad : Binds K A.d_law_bad ["way"] []
  g_law_bad : mg "_law_bad" = some (.ref A.f_law_bad)
  F_law : Fun K "law" "law" s_law A.f_law A.d_law
  b_law : Binds K A.d_law ["script"] []
  g_law : mg "law" = some (.ref A.f_law)
  z_any : mg "any" = none
  z_bool : mg "bool" = none
  z_int : mg "int" = none
  z_isinstance : mg "isinstance" = none
  z_len : mg "len" = none
  z_list : mg "list" = none
  z_min : mg "min" = none
  z_range : mg "range" = none
  z_sum : mg "sum" = none
  z_tuple : mg "tuple" = none
  x_DifferentLengths : ExcF K mg "DifferentLengths" A.c_DifferentLengths
section
variable {P : Program} {w : World} {K : PySem.W.Frag} {mg : Str → Option Value} {base : Heap} {A : Ad}
theorem ok_law_cell (T : Tx K mg A) : FnOk P w K mg base CX0 1 A.f_law_cell A.d_law_cell ["script", "k"] (spCell K) := by
  refine T.F_law_cell.ok sc_law_cell (fun vs H Q E h => ?_) (fun cdv A' outer s H vs Q E hr h => ?_)
  · obtain ⟨a, ns, k, rfl, _⟩ := h
    rfl
  obtain ⟨a, ns, n, rfl, hS, n0, k⟩ := h
  refine ⟨_, (pss_cons (ps_if (pt_cmpR op_lt (pv 1) (pe_callB call_len_seq (by rfl) T.z_len (by decide +kernel) (pa_cons (pv 0) pa_nil)) (nomark _)) (pss_one (ps_ret (pe_ix ix_list (pv 0) (pv 1) (fun _ _ => rfl)))) pss_nil)
      (pss_one (ps_ret pe_int))), ?_⟩
  refine ⟨_, rfl, _, rfl, a, _, rfl, .inl hS, _, _, rfl, rfl, _, rfl, ?_⟩
  rw [List.length_map]
  by_cases c : n < (ns.length : Int)
  · refine ite_t (decide_eq_true c) ?_
    exact ⟨_, rfl, _, rfl, a, _, n, _, rfl, rfl, hS, atI_int n0 c, k _⟩
  · refine ite_f (decide_eq_false c) ?_
    exact k _
theorem ok_law_draws (T : Tx K mg A) : FnOk P w K mg base CX0 1 A.f_law_draws A.d_law_draws ["cell", "count"] spDraws := by
  refine T.F_law_draws.ok sc_law_draws (fun vs H Q E h => ?_) (fun cdv A' outer s H vs Q E hr h => ?_)
  · obtain ⟨c, n, rfl, _⟩ := h
    rfl
  obtain ⟨c, n, rfl, n0, n1, k⟩ := h
  refine ⟨_, (pss_cons (ps_set (i := 2) sc_law_draws.nd rfl (Or.inl rfl) (pe_lstI pa_nil))
      (pss_cons (ps_set (i := 3) sc_law_draws.nd rfl (Or.inl rfl) (pv 0))
      (pss_cons (ps_for PassesOwn.never rfl (pi_range1 rfl T.z_range (pa_cons (pv 1) pa_nil)) (pg_name (i := 4) sc_law_draws.nd rfl (Or.inl rfl))
        (pss_one (ps_if (PW.pt (pw_and (pt_cmpR op_ge (pv 0) (pe_op op_pow pe_int pe_int) (nomark _)) (pw_and1 (pt_cmpR op_gt (pv 3) pe_int (nomark _))))) (pss_cons (ps_expr (PE.imp (pe_bm PySem.F.plainAttrs_list PySem.F.slot_list_append PySem.F.type_list_append mt_appendI (pv 2) (pa_cons (pe_op op_mod (pe_callTy call_intI (by rfl) T.z_int (by decide +kernel) (pa_cons (pv 3) pa_nil)) pe_int) pa_nil)) bml_imp))
      (pss_one (ps_set (i := 3) sc_law_draws.nd rfl (Or.inl rfl) (pe_op op_fdiv (pv 3) pe_int)))) (pss_cons (ps_set (i := 5) sc_law_draws.nd rfl (Or.inl rfl) (pe_op op_mod (pe_callTy call_intI (by rfl) T.z_int (by decide +kernel) (pa_cons (pe_op op_add (pe_op op_mul (pv 0) pe_int) (pe_op op_mul (pe_op op_add (pv 4) pe_int) pe_int)) pa_nil)) pe_int))
      (pss_cons (ps_set (i := 5) sc_law_draws.nd rfl (Or.inl rfl) (pe_op op_mod (pe_callTy call_intI (by rfl) T.z_int (by decide +kernel) (pa_cons (pe_op op_add (pe_op op_add (pe_op op_mul (pv 5) (pv 5)) (pe_op op_mul (pv 5) pe_int)) (pe_op op_mul (pv 4) pe_int)) pa_nil)) pe_int))
      (pss_cons (ps_set (i := 5) sc_law_draws.nd rfl (Or.inl rfl) (pe_op op_mod (pe_callTy call_intI (by rfl) T.z_int (by decide +kernel) (pa_cons (pe_op op_add (pe_op op_add (pe_op op_mul (pv 5) (pv 5)) (pv 0)) (pe_op op_mul pe_int (pv 4))) pa_nil)) pe_int))
      (pss_one (ps_expr (PE.imp (pe_bm PySem.F.plainAttrs_list PySem.F.slot_list_append PySem.F.type_list_append mt_appendI (pv 2) (pa_cons (pe_op op_mod (pe_op op_fdiv (pv 5) pe_int) pe_int) pa_nil)) bml_imp)))))))))
      (pss_one (ps_ret (pv 2)))))), ?_⟩
  try simp only [tSeq, tAsg, tVar, tC, tOp, rI0, rI, tUn, rU, tIfS, tTest, tRet, tRetN, tDrop, tCB, tCons, tNil, tLst, tLstI, tTup, gName, tB, tAnd, tOr, tNot, tAndV, tOrV, tNotV, tIf, tNext, tBreak, tCont, gSub, tCall, tCallN, tAug, ipI, tBML, tBML0, isL_IL, isL_lst, L2.start, List.map_cons, List.map_nil, List.length_cons, List.length_nil, List.cons_append, List.nil_append, List.getElem?_cons_succ, List.getElem?_cons_zero, Option.some.injEq, exists_eq_left', exists_eq_left, exists_and_left, V.int.injEq, V.ref.injEq, V.bl.injEq, V.str.injEq, List.set_cons_zero, List.set_cons_succ, List.cons.injEq, and_true, true_and, Nat.reduceAdd, Nat.reduceSub, List.replicate_succ, List.replicate_zero, rIxI, rIxH, rIxTH, rSetI, rSetH, rCatI, rRepI, rSlI, rAppendI, rExtendI, decide_eq_true_eq, upd_same, IL_inj, HO.lst.injEq, toInts_cons, toInts_nil, Option.map_some, if_true, if_false, Bool.true_eq_false, Bool.false_eq_true, Bool.not_true, Bool.not_false, Bool.not_eq_true', decide_eq_false_iff_not, atI_0, atI_1, atI_2, atI_3, atI_4, Int.reduceToNat, Int.reduceLT, Int.reduceLE, Int.reduceNeg, Int.reducePow, cast_lit, upd_upd, Int.reduceAdd, Int.reduceMul, Int.reduceSub, Nat.reduceLT, Nat.reduceLeDiff, cmul_r, cdiv_r, tSl, tPart, tNoPart, rEq, rNe, scal_nn, scal_ii, scal_bb, scal_ss, scal_is, scal_si, V.ty.injEq, and_assoc, tyH_non, tyH_bl, tyH_int, tyH_str, tyH_ref, tyO_lst, tyO_IL, tyO_tup, itO_lst, itO_tup, itO_IL, rIxD, rLenI, rLenH, rLenTH, rLenQ, rLenB, rListI, rListS, rIntI, rIntB, rSumI, rIsiD, rIsX, tCallS, tMakeS, tMake, tMakeC, tMakeSC, tFld, sFld, HO.ins.injEq, HO.tup.injEq, cxOf_K, nox_K, tr_K, suite_K, rTupleI, rAllB, rAnyB, BL_inj, tChain, wOnly, wAs, wMany, rEqI, rNeI, rMax2, rMin2, rIsN, rIsNotN, rStrIn, rStrNotIn, not_true_eq_false, not_false_eq_true, reduceCtorEq, cl_bool, cl_int, cl_str, cl_list, cl_tuple, isB_NoneType_bool, isB_NoneType_int, isB_NoneType_str, isB_NoneType_list, isB_NoneType_tuple, isB_bool_bool, isB_bool_int, isB_bool_str, isB_bool_list, isB_bool_tuple, isB_int_bool, isB_int_int, isB_int_str, isB_int_list, isB_int_tuple, isB_str_bool, isB_str_int, isB_str_str, isB_str_list, isB_str_tuple, isB_list_bool, isB_list_int, isB_list_str, isB_list_list, isB_list_tuple, isB_tuple_bool, isB_tuple_int, isB_tuple_str, isB_tuple_list, isB_tuple_tuple]
  refine ⟨line_le (by decide), fun r hr0 => ?_⟩
  obtain ⟨I, hI⟩ : ∃ F : Nat → L2.St → Hp → Prop, F = (fun i σ H' => Same H H' ∧ ∃ ns left y z, H' r = some (IL ns) ∧ ns.length = i ∧ D12 ns ∧ σ = [some (.int c), some (.int n), some (.ref r), some (.int left), y, z]) := ⟨_, rfl⟩
  refine ⟨_, rfl, n, rfl, by omega, by omega, for_range (lo := 0) (n := n.toNat) I (by rw [hI]; exact ⟨same_new hr0 _, [], c, none, none, upd_same, rfl, (fun z h => by cases h), rfl⟩) ?_ ?_⟩
  · intro i σ H' hi h
    rw [hI] at h
    obtain ⟨s1, ns, left, y, z, e1, hl, hd, rfl⟩ := h
    have fin : ∀ (v l' : Int) y', 0 ≤ v → v < 4096 → I (i + 1) [some (.int c), some (.int n), some (.ref r), some (.int l'), some (.int (0 + (i : Int))), y'] (upd H' r (IL (ns ++ [v]))) := fun v l' y' v0 v1 => by
      rw [hI]
      refine ⟨fun b o hb => ?_, ns ++ [v], l', _, _, upd_same, ?_, fun z hz => ?_, rfl⟩
      · rw [upd_ne (ne_of_none hb hr0)]
        exact s1 _ _ hb
      · rw [List.length_append, hl]
        rfl
      · rcases List.mem_append.mp hz with hz | hz
        · exact hd z hz
        · rw [List.mem_singleton.mp hz]
          exact ⟨v0, v1⟩
    have hz : ns.length < sizeLine := line_lt (by omega)
    have cm : ∀ x y : Int, 0 < y → CMul (x % 2147483647) (x % 2147483647) := fun x y _ => .inl ⟨by omega, by omega⟩
    have cm3 : CMul 13 (0 + (i : Int)) := .inl ⟨by decide, by decide⟩
    have cm2 : ∀ x : Int, CMul (x % 2147483629) (x % 2147483629) := fun x => .inl ⟨by omega, by omega⟩
    have cm1 : ∀ x : Int, CMul (x % 2147483647) (x % 2147483647) := fun x => .inl ⟨by omega, by omega⟩
    have cp : CPow 10 18 := ⟨by decide, by decide, by decide⟩
    try simp only [tSeq, tAsg, tVar, tC, tOp, rI0, rI, tUn, rU, tIfS, tTest, tRet, tRetN, tDrop, tCB, tCons, tNil, tLst, tLstI, tTup, gName, tB, tAnd, tOr, tNot, tAndV, tOrV, tNotV, tIf, tNext, tBreak, tCont, gSub, tCall, tCallN, tAug, ipI, tBML, tBML0, isL_IL, isL_lst, L2.start, List.map_cons, List.map_nil, List.length_cons, List.length_nil, List.cons_append, List.nil_append, List.getElem?_cons_succ, List.getElem?_cons_zero, Option.some.injEq, exists_eq_left', exists_eq_left, exists_and_left, V.int.injEq, V.ref.injEq, V.bl.injEq, V.str.injEq, List.set_cons_zero, List.set_cons_succ, List.cons.injEq, and_true, true_and, Nat.reduceAdd, Nat.reduceSub, List.replicate_succ, List.replicate_zero, rIxI, rIxH, rIxTH, rSetI, rSetH, rCatI, rRepI, rSlI, rAppendI, rExtendI, decide_eq_true_eq, upd_same, IL_inj, HO.lst.injEq, toInts_cons, toInts_nil, Option.map_some, if_true, if_false, Bool.true_eq_false, Bool.false_eq_true, Bool.not_true, Bool.not_false, Bool.not_eq_true', decide_eq_false_iff_not, atI_0, atI_1, atI_2, atI_3, atI_4, Int.reduceToNat, Int.reduceLT, Int.reduceLE, Int.reduceNeg, Int.reducePow, cast_lit, upd_upd, Int.reduceAdd, Int.reduceMul, Int.reduceSub, Nat.reduceLT, Nat.reduceLeDiff, cmul_r, cdiv_r, tSl, tPart, tNoPart, rEq, rNe, scal_nn, scal_ii, scal_bb, scal_ss, scal_is, scal_si, V.ty.injEq, and_assoc, tyH_non, tyH_bl, tyH_int, tyH_str, tyH_ref, tyO_lst, tyO_IL, tyO_tup, itO_lst, itO_tup, itO_IL, rIxD, rLenI, rLenH, rLenTH, rLenQ, rLenB, rListI, rListS, rIntI, rIntB, rSumI, rIsiD, rIsX, tCallS, tMakeS, tMake, tMakeC, tMakeSC, tFld, sFld, HO.ins.injEq, HO.tup.injEq, cxOf_K, nox_K, tr_K, suite_K, rTupleI, rAllB, rAnyB, BL_inj, tChain, wOnly, wAs, wMany, rEqI, rNeI, rMax2, rMin2, rIsN, rIsNotN, rStrIn, rStrNotIn, not_true_eq_false, not_false_eq_true, reduceCtorEq, cl_bool, cl_int, cl_str, cl_list, cl_tuple, isB_NoneType_bool, isB_NoneType_int, isB_NoneType_str, isB_NoneType_list, isB_NoneType_tuple, isB_bool_bool, isB_bool_int, isB_bool_str, isB_bool_list, isB_bool_tuple, isB_int_bool, isB_int_int, isB_int_str, isB_int_list, isB_int_tuple, isB_str_bool, isB_str_int, isB_str_str, isB_str_list, isB_str_tuple, isB_list_bool, isB_list_int, isB_list_str, isB_list_list, isB_list_tuple, isB_tuple_bool, isB_tuple_int, isB_tuple_str, isB_tuple_list, isB_tuple_tuple, e1, cp]
    by_cases c1 : (1000000000000000000 : Int) ≤ c
    · rw [if_pos c1]
      by_cases c2 : 0 < left
      · rw [if_pos c2]
        exact ⟨hz, fin _ _ _ (by omega) (by omega)⟩
      · rw [if_neg c2]
        exact ⟨cm1 _, cm2 _, cm3, hz, fin _ _ _ (by omega) (by omega)⟩
    · rw [if_neg c1]
      exact ⟨cm1 _, cm2 _, cm3, hz, fin _ _ _ (by omega) (by omega)⟩
  · intro σ H' h
    rw [hI] at h
    obtain ⟨s1, ns, left, y, z, e1, hl, hd, rfl⟩ := h
    try simp only [tSeq, tAsg, tVar, tC, tOp, rI0, rI, tUn, rU, tIfS, tTest, tRet, tRetN, tDrop, tCB, tCons, tNil, tLst, tLstI, tTup, gName, tB, tAnd, tOr, tNot, tAndV, tOrV, tNotV, tIf, tNext, tBreak, tCont, gSub, tCall, tCallN, tAug, ipI, tBML, tBML0, isL_IL, isL_lst, L2.start, List.map_cons, List.map_nil, List.length_cons, List.length_nil, List.cons_append, List.nil_append, List.getElem?_cons_succ, List.getElem?_cons_zero, Option.some.injEq, exists_eq_left', exists_eq_left, exists_and_left, V.int.injEq, V.ref.injEq, V.bl.injEq, V.str.injEq, List.set_cons_zero, List.set_cons_succ, List.cons.injEq, and_true, true_and, Nat.reduceAdd, Nat.reduceSub, List.replicate_succ, List.replicate_zero, rIxI, rIxH, rIxTH, rSetI, rSetH, rCatI, rRepI, rSlI, rAppendI, rExtendI, decide_eq_true_eq, upd_same, IL_inj, HO.lst.injEq, toInts_cons, toInts_nil, Option.map_some, if_true, if_false, Bool.true_eq_false, Bool.false_eq_true, Bool.not_true, Bool.not_false, Bool.not_eq_true', decide_eq_false_iff_not, atI_0, atI_1, atI_2, atI_3, atI_4, Int.reduceToNat, Int.reduceLT, Int.reduceLE, Int.reduceNeg, Int.reducePow, cast_lit, upd_upd, Int.reduceAdd, Int.reduceMul, Int.reduceSub, Nat.reduceLT, Nat.reduceLeDiff, cmul_r, cdiv_r, tSl, tPart, tNoPart, rEq, rNe, scal_nn, scal_ii, scal_bb, scal_ss, scal_is, scal_si, V.ty.injEq, and_assoc, tyH_non, tyH_bl, tyH_int, tyH_str, tyH_ref, tyO_lst, tyO_IL, tyO_tup, itO_lst, itO_tup, itO_IL, rIxD, rLenI, rLenH, rLenTH, rLenQ, rLenB, rListI, rListS, rIntI, rIntB, rSumI, rIsiD, rIsX, tCallS, tMakeS, tMake, tMakeC, tMakeSC, tFld, sFld, HO.ins.injEq, HO.tup.injEq, cxOf_K, nox_K, tr_K, suite_K, rTupleI, rAllB, rAnyB, BL_inj, tChain, wOnly, wAs, wMany, rEqI, rNeI, rMax2, rMin2, rIsN, rIsNotN, rStrIn, rStrNotIn, not_true_eq_false, not_false_eq_true, reduceCtorEq, cl_bool, cl_int, cl_str, cl_list, cl_tuple, isB_NoneType_bool, isB_NoneType_int, isB_NoneType_str, isB_NoneType_list, isB_NoneType_tuple, isB_bool_bool, isB_bool_int, isB_bool_str, isB_bool_list, isB_bool_tuple, isB_int_bool, isB_int_int, isB_int_str, isB_int_list, isB_int_tuple, isB_str_bool, isB_str_int, isB_str_str, isB_str_list, isB_str_tuple, isB_list_bool, isB_list_int, isB_list_str, isB_list_list, isB_list_tuple, isB_tuple_bool, isB_tuple_int, isB_tuple_str, isB_tuple_list, isB_tuple_tuple]
    exact k r ns H' s1 hr0 e1 (by omega) hd
end
section
variable {P : Program} {w : World} {K : PySem.W.Frag} {mg : Str → Option Value} {base : Heap} {A : Ad}
theorem ok_law_is_int (T : Tx K mg A) : FnOk P w K mg base CX0 1 A.f_law_is_int A.d_law_is_int ["x"] spIsInt := by
  refine T.F_law_is_int.ok sc_law_is_int (fun vs H Q E h => ?_) (fun cdv A' outer s H vs Q E hr h => ?_)
  · obtain ⟨i, rfl, _⟩ := h
    rfl
  obtain ⟨i, rfl, k⟩ := h
  refine ⟨_, (pss_one (ps_ret (pe_and (pe_callB call_isiD (by rfl) T.z_isinstance (by decide +kernel) (pa_cons (pv 0) (pa_cons (pe_bltn (by rfl) T.z_int (v := .ty "int") (by decide +kernel) rfl) pa_nil))) (pe_one (pe_not (pe_callB call_isiD (by rfl) T.z_isinstance (by decide +kernel) (pa_cons (pv 0) (pa_cons (pe_bltn (by rfl) T.z_bool (v := .ty "bool") (by decide +kernel) rfl) pa_nil)))))))), ?_⟩
  try simp only [tSeq, tAsg, tVar, tC, tOp, rI0, rI, tUn, rU, tIfS, tTest, tRet, tRetN, tDrop, tCB, tCons, tNil, tLst, tLstI, tTup, gName, tB, tAnd, tOr, tNot, tAndV, tOrV, tNotV, tIf, tNext, tBreak, tCont, gSub, tCall, tCallN, tAug, ipI, tBML, tBML0, isL_IL, isL_lst, L2.start, List.map_cons, List.map_nil, List.length_cons, List.length_nil, List.cons_append, List.nil_append, List.getElem?_cons_succ, List.getElem?_cons_zero, Option.some.injEq, exists_eq_left', exists_eq_left, exists_and_left, V.int.injEq, V.ref.injEq, V.bl.injEq, V.str.injEq, List.set_cons_zero, List.set_cons_succ, List.cons.injEq, and_true, true_and, Nat.reduceAdd, Nat.reduceSub, List.replicate_succ, List.replicate_zero, rIxI, rIxH, rIxTH, rSetI, rSetH, rCatI, rRepI, rSlI, rAppendI, rExtendI, decide_eq_true_eq, upd_same, IL_inj, HO.lst.injEq, toInts_cons, toInts_nil, Option.map_some, if_true, if_false, Bool.true_eq_false, Bool.false_eq_true, Bool.not_true, Bool.not_false, Bool.not_eq_true', decide_eq_false_iff_not, atI_0, atI_1, atI_2, atI_3, atI_4, Int.reduceToNat, Int.reduceLT, Int.reduceLE, Int.reduceNeg, Int.reducePow, cast_lit, upd_upd, Int.reduceAdd, Int.reduceMul, Int.reduceSub, Nat.reduceLT, Nat.reduceLeDiff, cmul_r, cdiv_r, tSl, tPart, tNoPart, rEq, rNe, scal_nn, scal_ii, scal_bb, scal_ss, scal_is, scal_si, V.ty.injEq, and_assoc, tyH_non, tyH_bl, tyH_int, tyH_str, tyH_ref, tyO_lst, tyO_IL, tyO_tup, itO_lst, itO_tup, itO_IL, rIxD, rLenI, rLenH, rLenTH, rLenQ, rLenB, rListI, rListS, rIntI, rIntB, rSumI, rIsiD, rIsX, tCallS, tMakeS, tMake, tMakeC, tMakeSC, tFld, sFld, HO.ins.injEq, HO.tup.injEq, cxOf_K, nox_K, tr_K, suite_K, rTupleI, rAllB, rAnyB, BL_inj, tChain, wOnly, wAs, wMany, rEqI, rNeI, rMax2, rMin2, rIsN, rIsNotN, rStrIn, rStrNotIn, not_true_eq_false, not_false_eq_true, reduceCtorEq, cl_bool, cl_int, cl_str, cl_list, cl_tuple, isB_NoneType_bool, isB_NoneType_int, isB_NoneType_str, isB_NoneType_list, isB_NoneType_tuple, isB_bool_bool, isB_bool_int, isB_bool_str, isB_bool_list, isB_bool_tuple, isB_int_bool, isB_int_int, isB_int_str, isB_int_list, isB_int_tuple, isB_str_bool, isB_str_int, isB_str_str, isB_str_list, isB_str_tuple, isB_list_bool, isB_list_int, isB_list_str, isB_list_list, isB_list_tuple, isB_tuple_bool, isB_tuple_int, isB_tuple_str, isB_tuple_list, isB_tuple_tuple]
  exact k
theorem ok_law_ints (T : Tx K mg A) : FnOk P w K mg base CX0 2 A.f_law_ints A.d_law_ints ["x", "kind"] spInts := by
  refine T.F_law_ints.ok sc_law_ints (fun vs H Q E h => ?_) (fun cdv A' outer s H vs Q E hr h => ?_)
  · obtain ⟨p, ns, ⟨rfl, _⟩ | ⟨rfl, _⟩, _⟩ := h <;> rfl
  refine ⟨_, (pss_cons (ps_if (pt_cmpR op_eq (pv 1) pe_str (nomark _)) (pss_one (ps_if (pt_not (pt_val (pe_callB call_isiD (by rfl) T.z_isinstance (by decide +kernel) (pa_cons (pv 0) (pa_cons (pe_bltn (by rfl) T.z_list (v := .ty "list") (by decide +kernel) rfl) pa_nil))))) (pss_one (ps_ret pe_bl)) pss_nil)) (pss_one (ps_if (pt_not (pt_val (pe_callB call_isiD (by rfl) T.z_isinstance (by decide +kernel) (pa_cons (pv 0) (pa_cons (pe_bltn (by rfl) T.z_tuple (v := .ty "tuple") (by decide +kernel) rfl) pa_nil))))) (pss_one (ps_ret pe_bl)) pss_nil)))
      (pss_cons (ps_for PassesOwn.never rfl (pi_range1 rfl T.z_range (pa_cons (pe_callB call_lenB (by rfl) T.z_len (by decide +kernel) (pa_cons (pv 0) pa_nil)) pa_nil)) (pg_name (i := 2) sc_law_ints.nd rfl (Or.inl rfl))
        (pss_one (ps_if (pt_not (pt_val (pe_call (ok_law_is_int T) (hr.mono (by decide)) rfl T.g_law_is_int T.F_law_is_int.kp T.b_law_is_int .nil pass0 (pa_cons (pe_ix ix_seqD (pv 0) (pv 2) (fun _ _ => rfl)) pa_nil)))) (pss_one (ps_ret pe_bl)) pss_nil)))
      (pss_one (ps_ret pe_bl)))), ?_⟩
  obtain ⟨p, ns, h, k⟩ := h
  obtain ⟨kd, hv, hi, hc⟩ : ∃ kd : Str, vs = [.ref p, .str kd] ∧ itO (H p) = some (ns.map V.int) ∧ ((kd = "list" ∧ tyH H (.ref p) = some "list") ∨ (kd = "tuple" ∧ tyH H (.ref p) = some "tuple")) := by
    rcases h with ⟨e, h⟩ | ⟨e, h⟩
    · exact ⟨_, e, by rw [h]; rfl, .inl ⟨rfl, by rw [tyH_ref, h]; rfl⟩⟩
    · exact ⟨_, e, by rw [h]; rfl, .inr ⟨rfl, by rw [tyH_ref, h]; rfl⟩⟩
  subst hv
  have ne : ¬ ("tuple" : Str) = "list" := by decide +kernel
  obtain ⟨I, hI⟩ : ∃ F : Nat → L2.St → Hp → Prop, F = (fun i σ H' => H' = H ∧ ∃ y, σ = [some (.ref p), some (.str kd), y]) := ⟨_, rfl⟩
  have go : tFor (iRng1 (tCons (tCB rLenB (tCons (tVar 0) tNil)) tNil)) (gName 2) (tIfS (tNot (tB (tCall spIsInt [] E0 (tCons (tOp rIxD (tVar 0) (tVar 2)) tNil)))) (tRet (tC (.bl false))) tNext) { nx := tRet (tC (.bl true)) { nx := fun x H' => Q V.non H', rt := Q }, rt := Q } [some (.ref p), some (.str kd), none] H := by
    refine ⟨_, rfl, p, _, rfl, hi, fun hz => ⟨_, rfl, by omega, by omega, for_range (lo := 0) (n := (((ns.map V.int).length : Nat) : Int).toNat) I (by rw [hI]; exact ⟨rfl, none, rfl⟩) ?_ ?_⟩⟩
    · intro i σ H' hi' h
      rw [hI] at h
      obtain ⟨rfl, y, rfl⟩ := h
      rw [List.length_map] at hi'
      have g : (ns.map V.int)[i]? = some (.int (ns.getD i 0)) := by
        rw [List.getElem?_map, List.getD_eq_getElem?_getD, List.getElem?_eq_getElem (by omega)]
        rfl
      have e0 : (0 : Int) + (i : Int) = ((i : Nat) : Int) := by omega
      rw [e0]
      try simp only [tSeq, tAsg, tVar, tC, tOp, rI0, rI, tUn, rU, tIfS, tTest, tRet, tRetN, tDrop, tCB, tCons, tNil, tLst, tLstI, tTup, gName, tB, tAnd, tOr, tNot, tAndV, tOrV, tNotV, tIf, tNext, tBreak, tCont, gSub, tCall, tCallN, tAug, ipI, tBML, tBML0, isL_IL, isL_lst, L2.start, List.map_cons, List.map_nil, List.length_cons, List.length_nil, List.cons_append, List.nil_append, List.getElem?_cons_succ, List.getElem?_cons_zero, Option.some.injEq, exists_eq_left', exists_eq_left, exists_and_left, V.int.injEq, V.ref.injEq, V.bl.injEq, V.str.injEq, List.set_cons_zero, List.set_cons_succ, List.cons.injEq, and_true, true_and, Nat.reduceAdd, Nat.reduceSub, List.replicate_succ, List.replicate_zero, rIxI, rIxH, rIxTH, rSetI, rSetH, rCatI, rRepI, rSlI, rAppendI, rExtendI, decide_eq_true_eq, upd_same, IL_inj, HO.lst.injEq, toInts_cons, toInts_nil, Option.map_some, if_true, if_false, Bool.true_eq_false, Bool.false_eq_true, Bool.not_true, Bool.not_false, Bool.not_eq_true', decide_eq_false_iff_not, atI_0, atI_1, atI_2, atI_3, atI_4, Int.reduceToNat, Int.reduceLT, Int.reduceLE, Int.reduceNeg, Int.reducePow, cast_lit, upd_upd, Int.reduceAdd, Int.reduceMul, Int.reduceSub, Nat.reduceLT, Nat.reduceLeDiff, cmul_r, cdiv_r, tSl, tPart, tNoPart, rEq, rNe, scal_nn, scal_ii, scal_bb, scal_ss, scal_is, scal_si, V.ty.injEq, and_assoc, tyH_non, tyH_bl, tyH_int, tyH_str, tyH_ref, tyO_lst, tyO_IL, tyO_tup, itO_lst, itO_tup, itO_IL, rIxD, rLenI, rLenH, rLenTH, rLenQ, rLenB, rListI, rListS, rIntI, rIntB, rSumI, rIsiD, rIsX, tCallS, tMakeS, tMake, tMakeC, tMakeSC, tFld, sFld, HO.ins.injEq, HO.tup.injEq, cxOf_K, nox_K, tr_K, suite_K, rTupleI, rAllB, rAnyB, BL_inj, tChain, wOnly, wAs, wMany, rEqI, rNeI, rMax2, rMin2, rIsN, rIsNotN, rStrIn, rStrNotIn, not_true_eq_false, not_false_eq_true, reduceCtorEq, cl_bool, cl_int, cl_str, cl_list, cl_tuple, isB_NoneType_bool, isB_NoneType_int, isB_NoneType_str, isB_NoneType_list, isB_NoneType_tuple, isB_bool_bool, isB_bool_int, isB_bool_str, isB_bool_list, isB_bool_tuple, isB_int_bool, isB_int_int, isB_int_str, isB_int_list, isB_int_tuple, isB_str_bool, isB_str_int, isB_str_str, isB_str_list, isB_str_tuple, isB_list_bool, isB_list_int, isB_list_str, isB_list_list, isB_list_tuple, isB_tuple_bool, isB_tuple_int, isB_tuple_str, isB_tuple_list, isB_tuple_tuple, hi, atI_k, g, spIsInt]
      rw [hI]
      exact ⟨rfl, _, rfl⟩
    · intro σ H' h
      rw [hI] at h
      obtain ⟨rfl, y, rfl⟩ := h
      try simp only [tSeq, tAsg, tVar, tC, tOp, rI0, rI, tUn, rU, tIfS, tTest, tRet, tRetN, tDrop, tCB, tCons, tNil, tLst, tLstI, tTup, gName, tB, tAnd, tOr, tNot, tAndV, tOrV, tNotV, tIf, tNext, tBreak, tCont, gSub, tCall, tCallN, tAug, ipI, tBML, tBML0, isL_IL, isL_lst, L2.start, List.map_cons, List.map_nil, List.length_cons, List.length_nil, List.cons_append, List.nil_append, List.getElem?_cons_succ, List.getElem?_cons_zero, Option.some.injEq, exists_eq_left', exists_eq_left, exists_and_left, V.int.injEq, V.ref.injEq, V.bl.injEq, V.str.injEq, List.set_cons_zero, List.set_cons_succ, List.cons.injEq, and_true, true_and, Nat.reduceAdd, Nat.reduceSub, List.replicate_succ, List.replicate_zero, rIxI, rIxH, rIxTH, rSetI, rSetH, rCatI, rRepI, rSlI, rAppendI, rExtendI, decide_eq_true_eq, upd_same, IL_inj, HO.lst.injEq, toInts_cons, toInts_nil, Option.map_some, if_true, if_false, Bool.true_eq_false, Bool.false_eq_true, Bool.not_true, Bool.not_false, Bool.not_eq_true', decide_eq_false_iff_not, atI_0, atI_1, atI_2, atI_3, atI_4, Int.reduceToNat, Int.reduceLT, Int.reduceLE, Int.reduceNeg, Int.reducePow, cast_lit, upd_upd, Int.reduceAdd, Int.reduceMul, Int.reduceSub, Nat.reduceLT, Nat.reduceLeDiff, cmul_r, cdiv_r, tSl, tPart, tNoPart, rEq, rNe, scal_nn, scal_ii, scal_bb, scal_ss, scal_is, scal_si, V.ty.injEq, and_assoc, tyH_non, tyH_bl, tyH_int, tyH_str, tyH_ref, tyO_lst, tyO_IL, tyO_tup, itO_lst, itO_tup, itO_IL, rIxD, rLenI, rLenH, rLenTH, rLenQ, rLenB, rListI, rListS, rIntI, rIntB, rSumI, rIsiD, rIsX, tCallS, tMakeS, tMake, tMakeC, tMakeSC, tFld, sFld, HO.ins.injEq, HO.tup.injEq, cxOf_K, nox_K, tr_K, suite_K, rTupleI, rAllB, rAnyB, BL_inj, tChain, wOnly, wAs, wMany, rEqI, rNeI, rMax2, rMin2, rIsN, rIsNotN, rStrIn, rStrNotIn, not_true_eq_false, not_false_eq_true, reduceCtorEq, cl_bool, cl_int, cl_str, cl_list, cl_tuple, isB_NoneType_bool, isB_NoneType_int, isB_NoneType_str, isB_NoneType_list, isB_NoneType_tuple, isB_bool_bool, isB_bool_int, isB_bool_str, isB_bool_list, isB_bool_tuple, isB_int_bool, isB_int_int, isB_int_str, isB_int_list, isB_int_tuple, isB_str_bool, isB_str_int, isB_str_str, isB_str_list, isB_str_tuple, isB_list_bool, isB_list_int, isB_list_str, isB_list_list, isB_list_tuple, isB_tuple_bool, isB_tuple_int, isB_tuple_str, isB_tuple_list, isB_tuple_tuple]
      exact k
  rcases hc with ⟨rfl, ht⟩ | ⟨rfl, ht⟩
  · rw [tyH_ref] at ht
    try simp only [tSeq, tAsg, tVar, tC, tOp, rI0, rI, tUn, rU, tIfS, tTest, tRet, tRetN, tDrop, tCB, tCons, tNil, tLst, tLstI, tTup, gName, tB, tAnd, tOr, tNot, tAndV, tOrV, tNotV, tIf, tNext, tBreak, tCont, gSub, tCall, tCallN, tAug, ipI, tBML, tBML0, isL_IL, isL_lst, L2.start, List.map_cons, List.map_nil, List.length_cons, List.length_nil, List.cons_append, List.nil_append, List.getElem?_cons_succ, List.getElem?_cons_zero, Option.some.injEq, exists_eq_left', exists_eq_left, exists_and_left, V.int.injEq, V.ref.injEq, V.bl.injEq, V.str.injEq, List.set_cons_zero, List.set_cons_succ, List.cons.injEq, and_true, true_and, Nat.reduceAdd, Nat.reduceSub, List.replicate_succ, List.replicate_zero, rIxI, rIxH, rIxTH, rSetI, rSetH, rCatI, rRepI, rSlI, rAppendI, rExtendI, decide_eq_true_eq, upd_same, IL_inj, HO.lst.injEq, toInts_cons, toInts_nil, Option.map_some, if_true, if_false, Bool.true_eq_false, Bool.false_eq_true, Bool.not_true, Bool.not_false, Bool.not_eq_true', decide_eq_false_iff_not, atI_0, atI_1, atI_2, atI_3, atI_4, Int.reduceToNat, Int.reduceLT, Int.reduceLE, Int.reduceNeg, Int.reducePow, cast_lit, upd_upd, Int.reduceAdd, Int.reduceMul, Int.reduceSub, Nat.reduceLT, Nat.reduceLeDiff, cmul_r, cdiv_r, tSl, tPart, tNoPart, rEq, rNe, scal_nn, scal_ii, scal_bb, scal_ss, scal_is, scal_si, V.ty.injEq, and_assoc, tyH_non, tyH_bl, tyH_int, tyH_str, tyH_ref, tyO_lst, tyO_IL, tyO_tup, itO_lst, itO_tup, itO_IL, rIxD, rLenI, rLenH, rLenTH, rLenQ, rLenB, rListI, rListS, rIntI, rIntB, rSumI, rIsiD, rIsX, tCallS, tMakeS, tMake, tMakeC, tMakeSC, tFld, sFld, HO.ins.injEq, HO.tup.injEq, cxOf_K, nox_K, tr_K, suite_K, rTupleI, rAllB, rAnyB, BL_inj, tChain, wOnly, wAs, wMany, rEqI, rNeI, rMax2, rMin2, rIsN, rIsNotN, rStrIn, rStrNotIn, not_true_eq_false, not_false_eq_true, reduceCtorEq, cl_bool, cl_int, cl_str, cl_list, cl_tuple, isB_NoneType_bool, isB_NoneType_int, isB_NoneType_str, isB_NoneType_list, isB_NoneType_tuple, isB_bool_bool, isB_bool_int, isB_bool_str, isB_bool_list, isB_bool_tuple, isB_int_bool, isB_int_int, isB_int_str, isB_int_list, isB_int_tuple, isB_str_bool, isB_str_int, isB_str_str, isB_str_list, isB_str_tuple, isB_list_bool, isB_list_int, isB_list_str, isB_list_list, isB_list_tuple, isB_tuple_bool, isB_tuple_int, isB_tuple_str, isB_tuple_list, isB_tuple_tuple, ht, decide_true]
    exact go
  · rw [tyH_ref] at ht
    try simp only [tSeq, tAsg, tVar, tC, tOp, rI0, rI, tUn, rU, tIfS, tTest, tRet, tRetN, tDrop, tCB, tCons, tNil, tLst, tLstI, tTup, gName, tB, tAnd, tOr, tNot, tAndV, tOrV, tNotV, tIf, tNext, tBreak, tCont, gSub, tCall, tCallN, tAug, ipI, tBML, tBML0, isL_IL, isL_lst, L2.start, List.map_cons, List.map_nil, List.length_cons, List.length_nil, List.cons_append, List.nil_append, List.getElem?_cons_succ, List.getElem?_cons_zero, Option.some.injEq, exists_eq_left', exists_eq_left, exists_and_left, V.int.injEq, V.ref.injEq, V.bl.injEq, V.str.injEq, List.set_cons_zero, List.set_cons_succ, List.cons.injEq, and_true, true_and, Nat.reduceAdd, Nat.reduceSub, List.replicate_succ, List.replicate_zero, rIxI, rIxH, rIxTH, rSetI, rSetH, rCatI, rRepI, rSlI, rAppendI, rExtendI, decide_eq_true_eq, upd_same, IL_inj, HO.lst.injEq, toInts_cons, toInts_nil, Option.map_some, if_true, if_false, Bool.true_eq_false, Bool.false_eq_true, Bool.not_true, Bool.not_false, Bool.not_eq_true', decide_eq_false_iff_not, atI_0, atI_1, atI_2, atI_3, atI_4, Int.reduceToNat, Int.reduceLT, Int.reduceLE, Int.reduceNeg, Int.reducePow, cast_lit, upd_upd, Int.reduceAdd, Int.reduceMul, Int.reduceSub, Nat.reduceLT, Nat.reduceLeDiff, cmul_r, cdiv_r, tSl, tPart, tNoPart, rEq, rNe, scal_nn, scal_ii, scal_bb, scal_ss, scal_is, scal_si, V.ty.injEq, and_assoc, tyH_non, tyH_bl, tyH_int, tyH_str, tyH_ref, tyO_lst, tyO_IL, tyO_tup, itO_lst, itO_tup, itO_IL, rIxD, rLenI, rLenH, rLenTH, rLenQ, rLenB, rListI, rListS, rIntI, rIntB, rSumI, rIsiD, rIsX, tCallS, tMakeS, tMake, tMakeC, tMakeSC, tFld, sFld, HO.ins.injEq, HO.tup.injEq, cxOf_K, nox_K, tr_K, suite_K, rTupleI, rAllB, rAnyB, BL_inj, tChain, wOnly, wAs, wMany, rEqI, rNeI, rMax2, rMin2, rIsN, rIsNotN, rStrIn, rStrNotIn, not_true_eq_false, not_false_eq_true, reduceCtorEq, cl_bool, cl_int, cl_str, cl_list, cl_tuple, isB_NoneType_bool, isB_NoneType_int, isB_NoneType_str, isB_NoneType_list, isB_NoneType_tuple, isB_bool_bool, isB_bool_int, isB_bool_str, isB_bool_list, isB_bool_tuple, isB_int_bool, isB_int_int, isB_int_str, isB_int_list, isB_int_tuple, isB_str_bool, isB_str_int, isB_str_str, isB_str_list, isB_str_tuple, isB_list_bool, isB_list_int, isB_list_str, isB_list_list, isB_list_tuple, isB_tuple_bool, isB_tuple_int, isB_tuple_str, isB_tuple_list, isB_tuple_tuple, ht, ne]
    exact go
end
section
variable {P : Program} {w : World} {K : PySem.W.Frag} {mg : Str → Option Value} {base : Heap} {A : Ad}
theorem ok_law_is_list (T : Tx K mg A) : FnOk P w K mg base CX0 3 A.f_law_is_list A.d_law_is_list ["x", "due"] spIsList := by
  refine T.F_law_is_list.ok sc_law_is_list (fun vs H Q E h => ?_) (fun cdv A' outer s H vs Q E hr h => ?_)
  · obtain ⟨p, u, ns, rfl, _⟩ := h
    rfl
  obtain ⟨p, u, ns, rfl, h1, h2, k⟩ := h
  refine ⟨_, (pss_one (ps_ret (pe_and (pe_call (ok_law_ints T) (hr.mono (by decide)) rfl T.g_law_ints T.F_law_ints.kp T.b_law_ints .nil pass0 (pa_cons (pv 0) (pa_cons pe_str pa_nil))) (pe_one (pe_cmpR (op_eqI hr.units) (pv 0) (pv 1) (nomark _)))))), ?_⟩
  refine ⟨_, rfl, p, ns, .inl ⟨rfl, h1⟩, true, rfl, ?_⟩
  try simp only [tSeq, tAsg, tVar, tC, tOp, rI0, rI, tUn, rU, tIfS, tTest, tRet, tRetN, tDrop, tCB, tCons, tNil, tLst, tLstI, tTup, gName, tB, tAnd, tOr, tNot, tAndV, tOrV, tNotV, tIf, tNext, tBreak, tCont, gSub, tCall, tCallN, tAug, ipI, tBML, tBML0, isL_IL, isL_lst, L2.start, List.map_cons, List.map_nil, List.length_cons, List.length_nil, List.cons_append, List.nil_append, List.getElem?_cons_succ, List.getElem?_cons_zero, Option.some.injEq, exists_eq_left', exists_eq_left, exists_and_left, V.int.injEq, V.ref.injEq, V.bl.injEq, V.str.injEq, List.set_cons_zero, List.set_cons_succ, List.cons.injEq, and_true, true_and, Nat.reduceAdd, Nat.reduceSub, List.replicate_succ, List.replicate_zero, rIxI, rIxH, rIxTH, rSetI, rSetH, rCatI, rRepI, rSlI, rAppendI, rExtendI, decide_eq_true_eq, upd_same, IL_inj, HO.lst.injEq, toInts_cons, toInts_nil, Option.map_some, if_true, if_false, Bool.true_eq_false, Bool.false_eq_true, Bool.not_true, Bool.not_false, Bool.not_eq_true', decide_eq_false_iff_not, atI_0, atI_1, atI_2, atI_3, atI_4, Int.reduceToNat, Int.reduceLT, Int.reduceLE, Int.reduceNeg, Int.reducePow, cast_lit, upd_upd, Int.reduceAdd, Int.reduceMul, Int.reduceSub, Nat.reduceLT, Nat.reduceLeDiff, cmul_r, cdiv_r, tSl, tPart, tNoPart, rEq, rNe, scal_nn, scal_ii, scal_bb, scal_ss, scal_is, scal_si, V.ty.injEq, and_assoc, tyH_non, tyH_bl, tyH_int, tyH_str, tyH_ref, tyO_lst, tyO_IL, tyO_tup, itO_lst, itO_tup, itO_IL, rIxD, rLenI, rLenH, rLenTH, rLenQ, rLenB, rListI, rListS, rIntI, rIntB, rSumI, rIsiD, rIsX, tCallS, tMakeS, tMake, tMakeC, tMakeSC, tFld, sFld, HO.ins.injEq, HO.tup.injEq, cxOf_K, nox_K, tr_K, suite_K, rTupleI, rAllB, rAnyB, BL_inj, tChain, wOnly, wAs, wMany, rEqI, rNeI, rMax2, rMin2, rIsN, rIsNotN, rStrIn, rStrNotIn, not_true_eq_false, not_false_eq_true, reduceCtorEq, cl_bool, cl_int, cl_str, cl_list, cl_tuple, isB_NoneType_bool, isB_NoneType_int, isB_NoneType_str, isB_NoneType_list, isB_NoneType_tuple, isB_bool_bool, isB_bool_int, isB_bool_str, isB_bool_list, isB_bool_tuple, isB_int_bool, isB_int_int, isB_int_str, isB_int_list, isB_int_tuple, isB_str_bool, isB_str_int, isB_str_str, isB_str_list, isB_str_tuple, isB_list_bool, isB_list_int, isB_list_str, isB_list_list, isB_list_tuple, isB_tuple_bool, isB_tuple_int, isB_tuple_str, isB_tuple_list, isB_tuple_tuple, h1, h2, decide_true]
  exact k
end
abbrev scWeak : Scope := { kind := .function, names := [(".0", .local), ("at", .cell), ("any", .globalImplicit), ("lists", .cell)], isGenerator := false, isCoroutine := false }
abbrev scSteady : Scope := { kind := .function, names := [(".0", .local), ("at", .cell), ("sum", .globalImplicit), ("lists", .cell)], isGenerator := false, isCoroutine := false }
section
variable {P : Program} {w : World} {K : PySem.W.Frag} {mg : Str → Option Value} {base : Heap} {A : Ad}
/-- a list of lists of ints -/
def RowsAt (H : Hp) (p : Addr) (rs : List (List Int)) : Prop := ∃ as : List Addr, H p = some (.lst (as.map V.ref)) ∧ as.length = rs.length ∧ ∀ i a, as[i]? = some a → H a = some (IL (rs.getD i []))
theorem RowsAt.same {H H' : Hp} {p : Addr} {rs : List (List Int)} (h : RowsAt H p rs) (s : Same H H') : RowsAt H' p rs := by
  obtain ⟨as, h1, h2, h3⟩ := h
  exact ⟨as, s _ _ h1, h2, fun i a e => s _ _ (h3 i a e)⟩
theorem refs_at {as : List Addr} {i : Nat} {x : V} (h : (as.map V.ref)[i]? = some x) : ∃ a, as[i]? = some a ∧ x = .ref a := by
  rw [List.getElem?_map] at h
  cases hh : as[i]? with
  | none => rw [hh] at h; cases h
  | some a => rw [hh] at h; exact ⟨a, rfl, (Option.some.inj h).symm⟩
def Least (m : Int) (rs : List (List Int)) : Prop := (∃ i, i < rs.length ∧ m = ((rs.getD i []).length : Int)) ∧ ∀ i, i < rs.length → m ≤ ((rs.getD i []).length : Int)
def spShort (CE : Addr) : Sp := fun vs H Q E => ∃ (p : Addr) (rs : List (List Int)), vs = [.ref p] ∧ RowsAt H p rs ∧ rs.length ≤ 1000 ∧ (0 < rs.length → ∀ m H', Same H H' → Least m rs → Q (.int m) H') ∧ (rs.length = 0 → E (.ref CE) none H)
theorem ok_shortest_length (T : Tx K mg A) : FnOk P w K mg base (L2.CX P w) 1 A.f_shortest_length A.d_shortest_length ["lists"] (spShort A.c_DifferentLengths) := by
  refine T.F_shortest_length.okX sc_shortest_length (fun vs H Q E h => ?_) (fun cdv A' outer s H vs Q E hr h => ?_)
  · obtain ⟨p, rs, rfl, _⟩ := h
    rfl
  obtain ⟨p, rs, rfl, ⟨as, hp, hl, ha⟩, hn, k1, k2⟩ := h
  refine ⟨_, (pss_cons (ps_if (pt_not (pt_truth (pv 0) (by intro _; rfl))) (pss_one (ps_raise rfl (takes_of rfl rfl rfl rfl) (pmk_own PySem.F.excBase_ValueError T.x_DifferentLengths.x T.x_DifferentLengths.g T.x_DifferentLengths.k (raises_own T.x_DifferentLengths.b T.x_DifferentLengths.t) rfl))) pss_nil)
      (pss_one (ps_ret (pe_callB (cr_min rfl) (by rfl) T.z_min (by decide +kernel) (pa_cons (pe_lc (own := [("cells", 1)]) (g := gName 1) (tt := tYes) rfl sc_shortest_length.nd (pi_list (pv 0)) (blkOk_by (N := n_shortest_length) (sc := (defScope s_shortest_length)) (by decide +kernel)) (fun _ _ _ _ _ => (pg_name (i := 1) sc_shortest_length.nd rfl (Or.inl rfl))) (fun _ _ _ _ _ => pts_nil) (fun _ _ _ _ _ => (pe_callB call_lenI (by rfl) T.z_len (by decide +kernel) (pa_cons (pv 1) pa_nil)))) pa_nil))))), ?_⟩
  try simp only [tSeq, tAsg, tVar, tC, tOp, rI0, rI, tUn, rU, tIfS, tTest, tRet, tRetN, tDrop, tCB, tCons, tNil, tLst, tLstI, tTup, gName, tB, tAnd, tOr, tNot, tAndV, tOrV, tNotV, tIf, tNext, tBreak, tCont, gSub, tCall, tCallN, tAug, ipI, tBML, tBML0, isL_IL, isL_lst, L2.start, List.map_cons, List.map_nil, List.length_cons, List.length_nil, List.cons_append, List.nil_append, List.getElem?_cons_succ, List.getElem?_cons_zero, Option.some.injEq, exists_eq_left', exists_eq_left, exists_and_left, V.int.injEq, V.ref.injEq, V.bl.injEq, V.str.injEq, List.set_cons_zero, List.set_cons_succ, List.cons.injEq, and_true, true_and, Nat.reduceAdd, Nat.reduceSub, List.replicate_succ, List.replicate_zero, rIxI, rIxH, rIxTH, rSetI, rSetH, rCatI, rRepI, rSlI, rAppendI, rExtendI, decide_eq_true_eq, upd_same, IL_inj, HO.lst.injEq, toInts_cons, toInts_nil, Option.map_some, if_true, if_false, Bool.true_eq_false, Bool.false_eq_true, Bool.not_true, Bool.not_false, Bool.not_eq_true', decide_eq_false_iff_not, atI_0, atI_1, atI_2, atI_3, atI_4, Int.reduceToNat, Int.reduceLT, Int.reduceLE, Int.reduceNeg, Int.reducePow, cast_lit, upd_upd, Int.reduceAdd, Int.reduceMul, Int.reduceSub, Nat.reduceLT, Nat.reduceLeDiff, cmul_r, cdiv_r, tSl, tPart, tNoPart, rEq, rNe, scal_nn, scal_ii, scal_bb, scal_ss, scal_is, scal_si, V.ty.injEq, and_assoc, tyH_non, tyH_bl, tyH_int, tyH_str, tyH_ref, tyO_lst, tyO_IL, tyO_tup, itO_lst, itO_tup, itO_IL, rIxD, rLenI, rLenH, rLenTH, rLenQ, rLenB, rListI, rListS, rIntI, rIntB, rSumI, rIsiD, rIsX, tCallS, tMakeS, tMake, tMakeC, tMakeSC, tFld, sFld, HO.ins.injEq, HO.tup.injEq, cxOf_K, nox_K, tr_K, suite_K, rTupleI, rAllB, rAnyB, BL_inj, tChain, wOnly, wAs, wMany, rEqI, rNeI, rMax2, rMin2, rIsN, rIsNotN, rStrIn, rStrNotIn, not_true_eq_false, not_false_eq_true, reduceCtorEq, cl_bool, cl_int, cl_str, cl_list, cl_tuple, isB_NoneType_bool, isB_NoneType_int, isB_NoneType_str, isB_NoneType_list, isB_NoneType_tuple, isB_bool_bool, isB_bool_int, isB_bool_str, isB_bool_list, isB_bool_tuple, isB_int_bool, isB_int_int, isB_int_str, isB_int_list, isB_int_tuple, isB_str_bool, isB_str_int, isB_str_str, isB_str_list, isB_str_tuple, isB_list_bool, isB_list_int, isB_list_str, isB_list_list, isB_list_tuple, isB_tuple_bool, isB_tuple_int, isB_tuple_str, isB_tuple_list, isB_tuple_tuple, hp]
  refine ⟨!(as.map V.ref).isEmpty, .inl ⟨_, .of hp, rfl⟩, ?_⟩
  by_cases hz : rs.length = 0
  · have e : as = [] := List.eq_nil_of_length_eq_zero (by omega)
    subst e
    exact k2 hz
  have e : (!(as.map V.ref).isEmpty) = true := by
    cases as with
    | nil => exact absurd hl.symm hz
    | cons _ _ => rfl
  rw [e, if_neg (by decide)]
  refine ⟨_, rfl, p, rfl, ⟨_, .of hp⟩, fun D hD => ?_⟩
  refine lc_listI (K := K) (a := p) (xs := as.map V.ref) (f := fun i => ((rs.getD i []).length : Int)) (by rw [List.length_map]; omega) (.of hp) hD (fun _ => rfl) ?_ fun H1 s1 e1 => ?_
  · intro i x H3 Q' hx s1 hq
    obtain ⟨a, hai, rfl⟩ := refs_at hx
    have e3 := s1 _ _ (ha i a hai)
    try simp only [tSeq, tAsg, tVar, tC, tOp, rI0, rI, tUn, rU, tIfS, tTest, tRet, tRetN, tDrop, tCB, tCons, tNil, tLst, tLstI, tTup, gName, tB, tAnd, tOr, tNot, tAndV, tOrV, tNotV, tIf, tNext, tBreak, tCont, gSub, tCall, tCallN, tAug, ipI, tBML, tBML0, isL_IL, isL_lst, L2.start, List.map_cons, List.map_nil, List.length_cons, List.length_nil, List.cons_append, List.nil_append, List.getElem?_cons_succ, List.getElem?_cons_zero, Option.some.injEq, exists_eq_left', exists_eq_left, exists_and_left, V.int.injEq, V.ref.injEq, V.bl.injEq, V.str.injEq, List.set_cons_zero, List.set_cons_succ, List.cons.injEq, and_true, true_and, Nat.reduceAdd, Nat.reduceSub, List.replicate_succ, List.replicate_zero, rIxI, rIxH, rIxTH, rSetI, rSetH, rCatI, rRepI, rSlI, rAppendI, rExtendI, decide_eq_true_eq, upd_same, IL_inj, HO.lst.injEq, toInts_cons, toInts_nil, Option.map_some, if_true, if_false, Bool.true_eq_false, Bool.false_eq_true, Bool.not_true, Bool.not_false, Bool.not_eq_true', decide_eq_false_iff_not, atI_0, atI_1, atI_2, atI_3, atI_4, Int.reduceToNat, Int.reduceLT, Int.reduceLE, Int.reduceNeg, Int.reducePow, cast_lit, upd_upd, Int.reduceAdd, Int.reduceMul, Int.reduceSub, Nat.reduceLT, Nat.reduceLeDiff, cmul_r, cdiv_r, tSl, tPart, tNoPart, rEq, rNe, scal_nn, scal_ii, scal_bb, scal_ss, scal_is, scal_si, V.ty.injEq, and_assoc, tyH_non, tyH_bl, tyH_int, tyH_str, tyH_ref, tyO_lst, tyO_IL, tyO_tup, itO_lst, itO_tup, itO_IL, rIxD, rLenI, rLenH, rLenTH, rLenQ, rLenB, rListI, rListS, rIntI, rIntB, rSumI, rIsiD, rIsX, tCallS, tMakeS, tMake, tMakeC, tMakeSC, tFld, sFld, HO.ins.injEq, HO.tup.injEq, cxOf_K, nox_K, tr_K, suite_K, rTupleI, rAllB, rAnyB, BL_inj, tChain, wOnly, wAs, wMany, rEqI, rNeI, rMax2, rMin2, rIsN, rIsNotN, rStrIn, rStrNotIn, not_true_eq_false, not_false_eq_true, reduceCtorEq, cl_bool, cl_int, cl_str, cl_list, cl_tuple, isB_NoneType_bool, isB_NoneType_int, isB_NoneType_str, isB_NoneType_list, isB_NoneType_tuple, isB_bool_bool, isB_bool_int, isB_bool_str, isB_bool_list, isB_bool_tuple, isB_int_bool, isB_int_int, isB_int_str, isB_int_list, isB_int_tuple, isB_str_bool, isB_str_int, isB_str_str, isB_str_list, isB_str_tuple, isB_list_bool, isB_list_int, isB_list_str, isB_list_list, isB_list_tuple, isB_tuple_bool, isB_tuple_int, isB_tuple_str, isB_tuple_list, isB_tuple_tuple, wipe, e3]
    exact hq _ (Same.refl _)
  · rw [List.length_map, hl] at e1
    refine ⟨D, _, rfl, .of e1, by rw [List.length_map, List.length_range]; omega, fun m hm hle => ?_⟩
    refine k1 (by omega) m _ s1 ⟨?_, fun i hi => ?_⟩
    · obtain ⟨i, hi, rfl⟩ := List.mem_map.mp hm
      exact ⟨i, List.mem_range.mp hi, rfl⟩
    · exact hle _ (List.mem_map.mpr ⟨i, List.mem_range.mpr hi, rfl⟩)
end
section
variable {P : Program} {w : World} {K : PySem.W.Frag} {mg : Str → Option Value} {base : Heap} {A : Ad}
def isWeak (rs : List (List Int)) (i : Nat) : Bool := ((List.range rs.length).map fun j => !decide ((rs.getD j []).getD i 0 = (rs.getD 0 []).getD i 0)).any id
def weakZ (rs : List (List Int)) (m : Int) : List Int := ((List.range m.toNat).filter (isWeak rs)).map fun i : Nat => (i : Int)
def spWeak (CE : Addr) : Sp := fun vs H Q E => ∃ (p : Addr) (rs : List (List Int)), vs = [.ref p] ∧ RowsAt H p rs ∧ rs.length ≤ 1000 ∧ (∀ i, (rs.getD i []).length ≤ 1000) ∧
  (0 < rs.length → ∀ u m H', Same H H' → Least m rs → H' u = some (IL (weakZ rs m)) → Q (.ref u) H') ∧ (rs.length = 0 → E (.ref CE) none H)
theorem ok_weak_places (T : Tx K mg A) : FnOk P w K mg base (L2.CX P w) 2 A.f_weak_places A.d_weak_places ["lists"] (spWeak A.c_DifferentLengths) := by
  refine T.F_weak_places.okX sc_weak_places (fun vs H Q E h => ?_) (fun cdv A' outer s H vs Q E hr h => ?_)
  · obtain ⟨p, rs, rfl, _⟩ := h
    rfl
  obtain ⟨p, rs, rfl, hR, hn, hc, k1, k2⟩ := h
  refine ⟨_, (pss_cons (ps_set (i := 1) sc_weak_places.nd rfl (Or.inl rfl) (pe_call (ok_shortest_length T) (hr.mono (by decide)) rfl T.g_shortest_length T.F_shortest_length.kp T.b_shortest_length .nil (passW (takes_of rfl rfl rfl rfl) (fun _ _ _ _ h => h)) (pa_cons (pv 0) pa_nil)))
      (pss_one (ps_ret (pe_lc (own := [("at", 2)]) (g := gName 2) rfl sc_weak_places.nd (pi_range1 rfl T.z_range (pa_cons (pv 1) pa_nil)) (blkOk_by (N := n_weak_places) (sc := (defScope s_weak_places)) (by decide +kernel)) (fun _ _ _ _ _ => (pg_name (i := 2) sc_weak_places.nd rfl (Or.inr rfl))) (fun _ _ _ _ _ => (pts_one (pt_val (pe_callB (cr_anyB rfl) (by rfl) T.z_any (by decide +kernel) (pa_cons (pe_lc (own := [("cells", 3)]) (wi := iList K (tVar 0)) (g := gName 3) (tt := tYes) rfl sc_weak_places.nd (pi_list (pv 0)) (blkOk_by (N := n_weak_places) (sc := scWeak) (by decide +kernel)) (fun _ _ _ _ _ => (pg_name (i := 3) sc_weak_places.nd rfl (Or.inl rfl))) (fun _ _ _ _ _ => pts_nil) (fun _ _ _ _ _ => (pe_cmpR op_ne (pe_ix ix_listI (pv 3) (pv 2) (fun _ _ => rfl)) (pe_ix ix_listI (pe_ix ix_listH (pv 0) pe_int (fun _ _ => rfl)) (pv 2) (fun _ _ => rfl)) (nomark _)))) pa_nil))))) (fun _ _ _ _ _ => (pv 2)))))), ?_⟩
  try simp only [tSeq, tAsg, tVar, tC, tOp, rI0, rI, tUn, rU, tIfS, tTest, tRet, tRetN, tDrop, tCB, tCons, tNil, tLst, tLstI, tTup, gName, tB, tAnd, tOr, tNot, tAndV, tOrV, tNotV, tIf, tNext, tBreak, tCont, gSub, tCall, tCallN, tAug, ipI, tBML, tBML0, isL_IL, isL_lst, L2.start, List.map_cons, List.map_nil, List.length_cons, List.length_nil, List.cons_append, List.nil_append, List.getElem?_cons_succ, List.getElem?_cons_zero, Option.some.injEq, exists_eq_left', exists_eq_left, exists_and_left, V.int.injEq, V.ref.injEq, V.bl.injEq, V.str.injEq, List.set_cons_zero, List.set_cons_succ, List.cons.injEq, and_true, true_and, Nat.reduceAdd, Nat.reduceSub, List.replicate_succ, List.replicate_zero, rIxI, rIxH, rIxTH, rSetI, rSetH, rCatI, rRepI, rSlI, rAppendI, rExtendI, decide_eq_true_eq, upd_same, IL_inj, HO.lst.injEq, toInts_cons, toInts_nil, Option.map_some, if_true, if_false, Bool.true_eq_false, Bool.false_eq_true, Bool.not_true, Bool.not_false, Bool.not_eq_true', decide_eq_false_iff_not, atI_0, atI_1, atI_2, atI_3, atI_4, Int.reduceToNat, Int.reduceLT, Int.reduceLE, Int.reduceNeg, Int.reducePow, cast_lit, upd_upd, Int.reduceAdd, Int.reduceMul, Int.reduceSub, Nat.reduceLT, Nat.reduceLeDiff, cmul_r, cdiv_r, tSl, tPart, tNoPart, rEq, rNe, scal_nn, scal_ii, scal_bb, scal_ss, scal_is, scal_si, V.ty.injEq, and_assoc, tyH_non, tyH_bl, tyH_int, tyH_str, tyH_ref, tyO_lst, tyO_IL, tyO_tup, itO_lst, itO_tup, itO_IL, rIxD, rLenI, rLenH, rLenTH, rLenQ, rLenB, rListI, rListS, rIntI, rIntB, rSumI, rIsiD, rIsX, tCallS, tMakeS, tMake, tMakeC, tMakeSC, tFld, sFld, HO.ins.injEq, HO.tup.injEq, cxOf_K, nox_K, tr_K, suite_K, rTupleI, rAllB, rAnyB, BL_inj, tChain, wOnly, wAs, wMany, rEqI, rNeI, rMax2, rMin2, rIsN, rIsNotN, rStrIn, rStrNotIn, not_true_eq_false, not_false_eq_true, reduceCtorEq, cl_bool, cl_int, cl_str, cl_list, cl_tuple, isB_NoneType_bool, isB_NoneType_int, isB_NoneType_str, isB_NoneType_list, isB_NoneType_tuple, isB_bool_bool, isB_bool_int, isB_bool_str, isB_bool_list, isB_bool_tuple, isB_int_bool, isB_int_int, isB_int_str, isB_int_list, isB_int_tuple, isB_str_bool, isB_str_int, isB_str_str, isB_str_list, isB_str_tuple, isB_list_bool, isB_list_int, isB_list_str, isB_list_list, isB_list_tuple, isB_tuple_bool, isB_tuple_int, isB_tuple_str, isB_tuple_list, isB_tuple_tuple]
  refine ⟨p, rs, rfl, hR, hn, fun h0 m H1 s1 hm => ?_, fun hz => k2 hz⟩
  have hR1 := hR.same s1
  try simp only [tSeq, tAsg, tVar, tC, tOp, rI0, rI, tUn, rU, tIfS, tTest, tRet, tRetN, tDrop, tCB, tCons, tNil, tLst, tLstI, tTup, gName, tB, tAnd, tOr, tNot, tAndV, tOrV, tNotV, tIf, tNext, tBreak, tCont, gSub, tCall, tCallN, tAug, ipI, tBML, tBML0, isL_IL, isL_lst, L2.start, List.map_cons, List.map_nil, List.length_cons, List.length_nil, List.cons_append, List.nil_append, List.getElem?_cons_succ, List.getElem?_cons_zero, Option.some.injEq, exists_eq_left', exists_eq_left, exists_and_left, V.int.injEq, V.ref.injEq, V.bl.injEq, V.str.injEq, List.set_cons_zero, List.set_cons_succ, List.cons.injEq, and_true, true_and, Nat.reduceAdd, Nat.reduceSub, List.replicate_succ, List.replicate_zero, rIxI, rIxH, rIxTH, rSetI, rSetH, rCatI, rRepI, rSlI, rAppendI, rExtendI, decide_eq_true_eq, upd_same, IL_inj, HO.lst.injEq, toInts_cons, toInts_nil, Option.map_some, if_true, if_false, Bool.true_eq_false, Bool.false_eq_true, Bool.not_true, Bool.not_false, Bool.not_eq_true', decide_eq_false_iff_not, atI_0, atI_1, atI_2, atI_3, atI_4, Int.reduceToNat, Int.reduceLT, Int.reduceLE, Int.reduceNeg, Int.reducePow, cast_lit, upd_upd, Int.reduceAdd, Int.reduceMul, Int.reduceSub, Nat.reduceLT, Nat.reduceLeDiff, cmul_r, cdiv_r, tSl, tPart, tNoPart, rEq, rNe, scal_nn, scal_ii, scal_bb, scal_ss, scal_is, scal_si, V.ty.injEq, and_assoc, tyH_non, tyH_bl, tyH_int, tyH_str, tyH_ref, tyO_lst, tyO_IL, tyO_tup, itO_lst, itO_tup, itO_IL, rIxD, rLenI, rLenH, rLenTH, rLenQ, rLenB, rListI, rListS, rIntI, rIntB, rSumI, rIsiD, rIsX, tCallS, tMakeS, tMake, tMakeC, tMakeSC, tFld, sFld, HO.ins.injEq, HO.tup.injEq, cxOf_K, nox_K, tr_K, suite_K, rTupleI, rAllB, rAnyB, BL_inj, tChain, wOnly, wAs, wMany, rEqI, rNeI, rMax2, rMin2, rIsN, rIsNotN, rStrIn, rStrNotIn, not_true_eq_false, not_false_eq_true, reduceCtorEq, cl_bool, cl_int, cl_str, cl_list, cl_tuple, isB_NoneType_bool, isB_NoneType_int, isB_NoneType_str, isB_NoneType_list, isB_NoneType_tuple, isB_bool_bool, isB_bool_int, isB_bool_str, isB_bool_list, isB_bool_tuple, isB_int_bool, isB_int_int, isB_int_str, isB_int_list, isB_int_tuple, isB_str_bool, isB_str_int, isB_str_str, isB_str_list, isB_str_tuple, isB_list_bool, isB_list_int, isB_list_str, isB_list_list, isB_list_tuple, isB_tuple_bool, isB_tuple_int, isB_tuple_str, isB_tuple_list, isB_tuple_tuple]
  have hm0 : 0 ≤ m := by
    obtain ⟨i, _, e⟩ := hm.1
    omega
  have hm1 : m ≤ 1000 := by
    obtain ⟨i, _, e⟩ := hm.1
    have := hc i
    omega
  refine ⟨_, rfl, m, rfl, by omega, by omega, fun D hD => ?_⟩
  refine lc_rangeF (lo := 0) (n := m.toNat) (f := fun i => ((i : Nat) : Int)) (kp := isWeak rs) (by omega) hD (fun _ => rfl) ?_ ?_ fun H2 s2 e2 => ?_
  · intro i H3 Q' hi s3 hq
    have hR3 := hR1.same s3
    have hR3' := hR3
    obtain ⟨as, hp, hl, ha⟩ := hR3'
    obtain ⟨a0, ha0⟩ : ∃ a0, as[0]? = some a0 := ⟨_, List.getElem?_eq_getElem (by omega)⟩
    have ei : (0 : Int) + (i : Int) = (i : Int) := by omega
    try simp only [tSeq, tAsg, tVar, tC, tOp, rI0, rI, tUn, rU, tIfS, tTest, tRet, tRetN, tDrop, tCB, tCons, tNil, tLst, tLstI, tTup, gName, tB, tAnd, tOr, tNot, tAndV, tOrV, tNotV, tIf, tNext, tBreak, tCont, gSub, tCall, tCallN, tAug, ipI, tBML, tBML0, isL_IL, isL_lst, L2.start, List.map_cons, List.map_nil, List.length_cons, List.length_nil, List.cons_append, List.nil_append, List.getElem?_cons_succ, List.getElem?_cons_zero, Option.some.injEq, exists_eq_left', exists_eq_left, exists_and_left, V.int.injEq, V.ref.injEq, V.bl.injEq, V.str.injEq, List.set_cons_zero, List.set_cons_succ, List.cons.injEq, and_true, true_and, Nat.reduceAdd, Nat.reduceSub, List.replicate_succ, List.replicate_zero, rIxI, rIxH, rIxTH, rSetI, rSetH, rCatI, rRepI, rSlI, rAppendI, rExtendI, decide_eq_true_eq, upd_same, IL_inj, HO.lst.injEq, toInts_cons, toInts_nil, Option.map_some, if_true, if_false, Bool.true_eq_false, Bool.false_eq_true, Bool.not_true, Bool.not_false, Bool.not_eq_true', decide_eq_false_iff_not, atI_0, atI_1, atI_2, atI_3, atI_4, Int.reduceToNat, Int.reduceLT, Int.reduceLE, Int.reduceNeg, Int.reducePow, cast_lit, upd_upd, Int.reduceAdd, Int.reduceMul, Int.reduceSub, Nat.reduceLT, Nat.reduceLeDiff, cmul_r, cdiv_r, tSl, tPart, tNoPart, rEq, rNe, scal_nn, scal_ii, scal_bb, scal_ss, scal_is, scal_si, V.ty.injEq, and_assoc, tyH_non, tyH_bl, tyH_int, tyH_str, tyH_ref, tyO_lst, tyO_IL, tyO_tup, itO_lst, itO_tup, itO_IL, rIxD, rLenI, rLenH, rLenTH, rLenQ, rLenB, rListI, rListS, rIntI, rIntB, rSumI, rIsiD, rIsX, tCallS, tMakeS, tMake, tMakeC, tMakeSC, tFld, sFld, HO.ins.injEq, HO.tup.injEq, cxOf_K, nox_K, tr_K, suite_K, rTupleI, rAllB, rAnyB, BL_inj, tChain, wOnly, wAs, wMany, rEqI, rNeI, rMax2, rMin2, rIsN, rIsNotN, rStrIn, rStrNotIn, not_true_eq_false, not_false_eq_true, reduceCtorEq, cl_bool, cl_int, cl_str, cl_list, cl_tuple, isB_NoneType_bool, isB_NoneType_int, isB_NoneType_str, isB_NoneType_list, isB_NoneType_tuple, isB_bool_bool, isB_bool_int, isB_bool_str, isB_bool_list, isB_bool_tuple, isB_int_bool, isB_int_int, isB_int_str, isB_int_list, isB_int_tuple, isB_str_bool, isB_str_int, isB_str_str, isB_str_list, isB_str_tuple, isB_list_bool, isB_list_int, isB_list_str, isB_list_list, isB_list_tuple, isB_tuple_bool, isB_tuple_int, isB_tuple_str, isB_tuple_list, isB_tuple_tuple, wipe, ei]
    refine ⟨_, rfl, p, rfl, ⟨_, .of hp⟩, fun D2 hD2 => ?_⟩
    refine lc_listV (K := K) (a := p) (xs := as.map V.ref) (f := fun j => V.bl (!decide ((rs.getD j []).getD i 0 = (rs.getD 0 []).getD i 0))) (by rw [List.length_map]; omega) (.of hp) hD2 (fun _ => rfl) ?_ fun H4 s4 e4 => ?_
    · intro j x H5 Q2 hx s5 hq2
      obtain ⟨a, haj, rfl⟩ := refs_at hx
      have hlt : j < as.length := (List.getElem?_eq_some_iff.mp haj).1
      have b1 := hm.2 j (by omega)
      have b2 := hm.2 0 (by omega)
      have e5 := s5 _ _ (ha j a haj)
      have e6 := s5 _ _ (ha 0 a0 ha0)
      have e7 := s5 _ _ hp
      have g0 : (as.map V.ref)[0]? = some (.ref a0) := by rw [List.getElem?_map, ha0]; rfl
      try simp only [tSeq, tAsg, tVar, tC, tOp, rI0, rI, tUn, rU, tIfS, tTest, tRet, tRetN, tDrop, tCB, tCons, tNil, tLst, tLstI, tTup, gName, tB, tAnd, tOr, tNot, tAndV, tOrV, tNotV, tIf, tNext, tBreak, tCont, gSub, tCall, tCallN, tAug, ipI, tBML, tBML0, isL_IL, isL_lst, L2.start, List.map_cons, List.map_nil, List.length_cons, List.length_nil, List.cons_append, List.nil_append, List.getElem?_cons_succ, List.getElem?_cons_zero, Option.some.injEq, exists_eq_left', exists_eq_left, exists_and_left, V.int.injEq, V.ref.injEq, V.bl.injEq, V.str.injEq, List.set_cons_zero, List.set_cons_succ, List.cons.injEq, and_true, true_and, Nat.reduceAdd, Nat.reduceSub, List.replicate_succ, List.replicate_zero, rIxI, rIxH, rIxTH, rSetI, rSetH, rCatI, rRepI, rSlI, rAppendI, rExtendI, decide_eq_true_eq, upd_same, IL_inj, HO.lst.injEq, toInts_cons, toInts_nil, Option.map_some, if_true, if_false, Bool.true_eq_false, Bool.false_eq_true, Bool.not_true, Bool.not_false, Bool.not_eq_true', decide_eq_false_iff_not, atI_0, atI_1, atI_2, atI_3, atI_4, Int.reduceToNat, Int.reduceLT, Int.reduceLE, Int.reduceNeg, Int.reducePow, cast_lit, upd_upd, Int.reduceAdd, Int.reduceMul, Int.reduceSub, Nat.reduceLT, Nat.reduceLeDiff, cmul_r, cdiv_r, tSl, tPart, tNoPart, rEq, rNe, scal_nn, scal_ii, scal_bb, scal_ss, scal_is, scal_si, V.ty.injEq, and_assoc, tyH_non, tyH_bl, tyH_int, tyH_str, tyH_ref, tyO_lst, tyO_IL, tyO_tup, itO_lst, itO_tup, itO_IL, rIxD, rLenI, rLenH, rLenTH, rLenQ, rLenB, rListI, rListS, rIntI, rIntB, rSumI, rIsiD, rIsX, tCallS, tMakeS, tMake, tMakeC, tMakeSC, tFld, sFld, HO.ins.injEq, HO.tup.injEq, cxOf_K, nox_K, tr_K, suite_K, rTupleI, rAllB, rAnyB, BL_inj, tChain, wOnly, wAs, wMany, rEqI, rNeI, rMax2, rMin2, rIsN, rIsNotN, rStrIn, rStrNotIn, not_true_eq_false, not_false_eq_true, reduceCtorEq, cl_bool, cl_int, cl_str, cl_list, cl_tuple, isB_NoneType_bool, isB_NoneType_int, isB_NoneType_str, isB_NoneType_list, isB_NoneType_tuple, isB_bool_bool, isB_bool_int, isB_bool_str, isB_bool_list, isB_bool_tuple, isB_int_bool, isB_int_int, isB_int_str, isB_int_list, isB_int_tuple, isB_str_bool, isB_str_int, isB_str_str, isB_str_list, isB_str_tuple, isB_list_bool, isB_list_int, isB_list_str, isB_list_list, isB_list_tuple, isB_tuple_bool, isB_tuple_int, isB_tuple_str, isB_tuple_list, isB_tuple_tuple, wipe, e5, e6, e7, atI_0, g0]
      exact ⟨by omega, by omega, by omega, by omega, hq2 H5 (Same.refl _)⟩
    · rw [List.length_map, hl] at e4
      have e5 := BL_of e4
      try simp only [tSeq, tAsg, tVar, tC, tOp, rI0, rI, tUn, rU, tIfS, tTest, tRet, tRetN, tDrop, tCB, tCons, tNil, tLst, tLstI, tTup, gName, tB, tAnd, tOr, tNot, tAndV, tOrV, tNotV, tIf, tNext, tBreak, tCont, gSub, tCall, tCallN, tAug, ipI, tBML, tBML0, isL_IL, isL_lst, L2.start, List.map_cons, List.map_nil, List.length_cons, List.length_nil, List.cons_append, List.nil_append, List.getElem?_cons_succ, List.getElem?_cons_zero, Option.some.injEq, exists_eq_left', exists_eq_left, exists_and_left, V.int.injEq, V.ref.injEq, V.bl.injEq, V.str.injEq, List.set_cons_zero, List.set_cons_succ, List.cons.injEq, and_true, true_and, Nat.reduceAdd, Nat.reduceSub, List.replicate_succ, List.replicate_zero, rIxI, rIxH, rIxTH, rSetI, rSetH, rCatI, rRepI, rSlI, rAppendI, rExtendI, decide_eq_true_eq, upd_same, IL_inj, HO.lst.injEq, toInts_cons, toInts_nil, Option.map_some, if_true, if_false, Bool.true_eq_false, Bool.false_eq_true, Bool.not_true, Bool.not_false, Bool.not_eq_true', decide_eq_false_iff_not, atI_0, atI_1, atI_2, atI_3, atI_4, Int.reduceToNat, Int.reduceLT, Int.reduceLE, Int.reduceNeg, Int.reducePow, cast_lit, upd_upd, Int.reduceAdd, Int.reduceMul, Int.reduceSub, Nat.reduceLT, Nat.reduceLeDiff, cmul_r, cdiv_r, tSl, tPart, tNoPart, rEq, rNe, scal_nn, scal_ii, scal_bb, scal_ss, scal_is, scal_si, V.ty.injEq, and_assoc, tyH_non, tyH_bl, tyH_int, tyH_str, tyH_ref, tyO_lst, tyO_IL, tyO_tup, itO_lst, itO_tup, itO_IL, rIxD, rLenI, rLenH, rLenTH, rLenQ, rLenB, rListI, rListS, rIntI, rIntB, rSumI, rIsiD, rIsX, tCallS, tMakeS, tMake, tMakeC, tMakeSC, tFld, sFld, HO.ins.injEq, HO.tup.injEq, cxOf_K, nox_K, tr_K, suite_K, rTupleI, rAllB, rAnyB, BL_inj, tChain, wOnly, wAs, wMany, rEqI, rNeI, rMax2, rMin2, rIsN, rIsNotN, rStrIn, rStrNotIn, not_true_eq_false, not_false_eq_true, reduceCtorEq, cl_bool, cl_int, cl_str, cl_list, cl_tuple, isB_NoneType_bool, isB_NoneType_int, isB_NoneType_str, isB_NoneType_list, isB_NoneType_tuple, isB_bool_bool, isB_bool_int, isB_bool_str, isB_bool_list, isB_bool_tuple, isB_int_bool, isB_int_int, isB_int_str, isB_int_list, isB_int_tuple, isB_str_bool, isB_str_int, isB_str_str, isB_str_list, isB_str_tuple, isB_list_bool, isB_list_int, isB_list_str, isB_list_list, isB_list_tuple, isB_tuple_bool, isB_tuple_int, isB_tuple_str, isB_tuple_list, isB_tuple_tuple, e5]
      exact hq _ s4
  · intro i H3 Q' hi _ s3 hq
    have ei : (0 : Int) + (i : Int) = (i : Int) := by omega
    try simp only [tSeq, tAsg, tVar, tC, tOp, rI0, rI, tUn, rU, tIfS, tTest, tRet, tRetN, tDrop, tCB, tCons, tNil, tLst, tLstI, tTup, gName, tB, tAnd, tOr, tNot, tAndV, tOrV, tNotV, tIf, tNext, tBreak, tCont, gSub, tCall, tCallN, tAug, ipI, tBML, tBML0, isL_IL, isL_lst, L2.start, List.map_cons, List.map_nil, List.length_cons, List.length_nil, List.cons_append, List.nil_append, List.getElem?_cons_succ, List.getElem?_cons_zero, Option.some.injEq, exists_eq_left', exists_eq_left, exists_and_left, V.int.injEq, V.ref.injEq, V.bl.injEq, V.str.injEq, List.set_cons_zero, List.set_cons_succ, List.cons.injEq, and_true, true_and, Nat.reduceAdd, Nat.reduceSub, List.replicate_succ, List.replicate_zero, rIxI, rIxH, rIxTH, rSetI, rSetH, rCatI, rRepI, rSlI, rAppendI, rExtendI, decide_eq_true_eq, upd_same, IL_inj, HO.lst.injEq, toInts_cons, toInts_nil, Option.map_some, if_true, if_false, Bool.true_eq_false, Bool.false_eq_true, Bool.not_true, Bool.not_false, Bool.not_eq_true', decide_eq_false_iff_not, atI_0, atI_1, atI_2, atI_3, atI_4, Int.reduceToNat, Int.reduceLT, Int.reduceLE, Int.reduceNeg, Int.reducePow, cast_lit, upd_upd, Int.reduceAdd, Int.reduceMul, Int.reduceSub, Nat.reduceLT, Nat.reduceLeDiff, cmul_r, cdiv_r, tSl, tPart, tNoPart, rEq, rNe, scal_nn, scal_ii, scal_bb, scal_ss, scal_is, scal_si, V.ty.injEq, and_assoc, tyH_non, tyH_bl, tyH_int, tyH_str, tyH_ref, tyO_lst, tyO_IL, tyO_tup, itO_lst, itO_tup, itO_IL, rIxD, rLenI, rLenH, rLenTH, rLenQ, rLenB, rListI, rListS, rIntI, rIntB, rSumI, rIsiD, rIsX, tCallS, tMakeS, tMake, tMakeC, tMakeSC, tFld, sFld, HO.ins.injEq, HO.tup.injEq, cxOf_K, nox_K, tr_K, suite_K, rTupleI, rAllB, rAnyB, BL_inj, tChain, wOnly, wAs, wMany, rEqI, rNeI, rMax2, rMin2, rIsN, rIsNotN, rStrIn, rStrNotIn, not_true_eq_false, not_false_eq_true, reduceCtorEq, cl_bool, cl_int, cl_str, cl_list, cl_tuple, isB_NoneType_bool, isB_NoneType_int, isB_NoneType_str, isB_NoneType_list, isB_NoneType_tuple, isB_bool_bool, isB_bool_int, isB_bool_str, isB_bool_list, isB_bool_tuple, isB_int_bool, isB_int_int, isB_int_str, isB_int_list, isB_int_tuple, isB_str_bool, isB_str_int, isB_str_str, isB_str_list, isB_str_tuple, isB_list_bool, isB_list_int, isB_list_str, isB_list_list, isB_list_tuple, isB_tuple_bool, isB_tuple_int, isB_tuple_str, isB_tuple_list, isB_tuple_tuple, wipe, ei]
    exact hq _ (Same.refl _)
  · exact k1 h0 D m H2 (s1.trans s2) hm e2
end
section
variable {P : Program} {w : World} {K : PySem.W.Frag} {mg : Str → Option Value} {base : Heap} {A : Ad}
def onesZ (rs : List (List Int)) (i : Nat) : Int := ((List.range rs.length).map fun j => (rs.getD j []).getD i 0).sum
def steadyZ (rs : List (List Int)) (m : Int) : List Int := (List.range m.toNat).map fun i => if (rs.length : Int) < 2 * onesZ rs i then 1 else 0
def spSteady (CE : Addr) : Sp := fun vs H Q E => ∃ (p : Addr) (rs : List (List Int)), vs = [.ref p] ∧ RowsAt H p rs ∧ rs.length ≤ 1000 ∧ (∀ i, (rs.getD i []).length ≤ 1000) ∧
  (0 < rs.length → ∀ u m H', Same H H' → Least m rs → H' u = some (IL (steadyZ rs m)) → Q (.ref u) H') ∧ (rs.length = 0 → E (.ref CE) none H)
theorem ok_steady_cells (T : Tx K mg A) : FnOk P w K mg base (L2.CX P w) 2 A.f_steady_cells A.d_steady_cells ["lists"] (spSteady A.c_DifferentLengths) := by
  refine T.F_steady_cells.okX sc_steady_cells (fun vs H Q E h => ?_) (fun cdv A' outer s H vs Q E hr h => ?_)
  · obtain ⟨p, rs, rfl, _⟩ := h
    rfl
  obtain ⟨p, rs, rfl, hR, hn, hc, k1, k2⟩ := h
  refine ⟨_, (pss_cons (ps_set (i := 1) sc_steady_cells.nd rfl (Or.inl rfl) (pe_call (ok_shortest_length T) (hr.mono (by decide)) rfl T.g_shortest_length T.F_shortest_length.kp T.b_shortest_length .nil (passW (takes_of rfl rfl rfl rfl) (fun _ _ _ _ h => h)) (pa_cons (pv 0) pa_nil)))
      (pss_cons (ps_setLc (i := 2) (own := [("at", 4)]) (g := gName 4) (tt := tYes) rfl sc_steady_cells.nd rfl rfl (sw_true rfl rfl rfl (by decide +kernel)) (pi_range1 rfl T.z_range (pa_cons (pv 1) pa_nil)) (blkOk_by (N := n_steady_cells) (sc := (defScope s_steady_cells)) (by decide +kernel)) (fun _ _ _ _ _ => (pg_name (i := 4) sc_steady_cells.nd rfl (Or.inr rfl))) (fun _ _ _ _ _ => pts_nil) (fun _ _ _ _ _ => (pe_callB (cr_sumI rfl) (by rfl) T.z_sum (by decide +kernel) (pa_cons (pe_lc (own := [("cells", 3)]) (wi := iList K (tVar 0)) (g := gName 3) (tt := tYes) rfl sc_steady_cells.nd (pi_list (pv 0)) (blkOk_by (N := n_steady_cells) (sc := scSteady) (by decide +kernel)) (fun _ _ _ _ _ => (pg_name (i := 3) sc_steady_cells.nd rfl (Or.inl rfl))) (fun _ _ _ _ _ => pts_nil) (fun _ _ _ _ _ => (pe_ix ix_listI (pv 3) (pv 4) (fun _ _ => rfl)))) pa_nil))))
      (pss_one (ps_ret (pe_lc (own := [("many", 5)]) (g := gName 5) (tt := tYes) rfl sc_steady_cells.nd (pi_list (pv 2)) (blkOk_by (N := n_steady_cells) (sc := (defScope s_steady_cells)) (by decide +kernel)) (fun _ _ _ _ _ => (pg_name (i := 5) sc_steady_cells.nd rfl (Or.inl rfl))) (fun _ _ _ _ _ => pts_nil) (fun _ _ _ _ _ => (pe_ifExp (pt_cmpR op_gt (pe_op op_mul pe_int (pv 5)) (pe_callB call_lenH (by rfl) T.z_len (by decide +kernel) (pa_cons (pv 0) pa_nil)) (nomark _)) pe_int pe_int))))))), ?_⟩
  try simp only [tSeq, tAsg, tVar, tC, tOp, rI0, rI, tUn, rU, tIfS, tTest, tRet, tRetN, tDrop, tCB, tCons, tNil, tLst, tLstI, tTup, gName, tB, tAnd, tOr, tNot, tAndV, tOrV, tNotV, tIf, tNext, tBreak, tCont, gSub, tCall, tCallN, tAug, ipI, tBML, tBML0, isL_IL, isL_lst, L2.start, List.map_cons, List.map_nil, List.length_cons, List.length_nil, List.cons_append, List.nil_append, List.getElem?_cons_succ, List.getElem?_cons_zero, Option.some.injEq, exists_eq_left', exists_eq_left, exists_and_left, V.int.injEq, V.ref.injEq, V.bl.injEq, V.str.injEq, List.set_cons_zero, List.set_cons_succ, List.cons.injEq, and_true, true_and, Nat.reduceAdd, Nat.reduceSub, List.replicate_succ, List.replicate_zero, rIxI, rIxH, rIxTH, rSetI, rSetH, rCatI, rRepI, rSlI, rAppendI, rExtendI, decide_eq_true_eq, upd_same, IL_inj, HO.lst.injEq, toInts_cons, toInts_nil, Option.map_some, if_true, if_false, Bool.true_eq_false, Bool.false_eq_true, Bool.not_true, Bool.not_false, Bool.not_eq_true', decide_eq_false_iff_not, atI_0, atI_1, atI_2, atI_3, atI_4, Int.reduceToNat, Int.reduceLT, Int.reduceLE, Int.reduceNeg, Int.reducePow, cast_lit, upd_upd, Int.reduceAdd, Int.reduceMul, Int.reduceSub, Nat.reduceLT, Nat.reduceLeDiff, cmul_r, cdiv_r, tSl, tPart, tNoPart, rEq, rNe, scal_nn, scal_ii, scal_bb, scal_ss, scal_is, scal_si, V.ty.injEq, and_assoc, tyH_non, tyH_bl, tyH_int, tyH_str, tyH_ref, tyO_lst, tyO_IL, tyO_tup, itO_lst, itO_tup, itO_IL, rIxD, rLenI, rLenH, rLenTH, rLenQ, rLenB, rListI, rListS, rIntI, rIntB, rSumI, rIsiD, rIsX, tCallS, tMakeS, tMake, tMakeC, tMakeSC, tFld, sFld, HO.ins.injEq, HO.tup.injEq, cxOf_K, nox_K, tr_K, suite_K, rTupleI, rAllB, rAnyB, BL_inj, tChain, wOnly, wAs, wMany, rEqI, rNeI, rMax2, rMin2, rIsN, rIsNotN, rStrIn, rStrNotIn, not_true_eq_false, not_false_eq_true, reduceCtorEq, cl_bool, cl_int, cl_str, cl_list, cl_tuple, isB_NoneType_bool, isB_NoneType_int, isB_NoneType_str, isB_NoneType_list, isB_NoneType_tuple, isB_bool_bool, isB_bool_int, isB_bool_str, isB_bool_list, isB_bool_tuple, isB_int_bool, isB_int_int, isB_int_str, isB_int_list, isB_int_tuple, isB_str_bool, isB_str_int, isB_str_str, isB_str_list, isB_str_tuple, isB_list_bool, isB_list_int, isB_list_str, isB_list_list, isB_list_tuple, isB_tuple_bool, isB_tuple_int, isB_tuple_str, isB_tuple_list, isB_tuple_tuple]
  refine ⟨p, rs, rfl, hR, hn, fun h0 m H1 s1 hm => ?_, fun hz => k2 hz⟩
  have hR1 := hR.same s1
  try simp only [tSeq, tAsg, tVar, tC, tOp, rI0, rI, tUn, rU, tIfS, tTest, tRet, tRetN, tDrop, tCB, tCons, tNil, tLst, tLstI, tTup, gName, tB, tAnd, tOr, tNot, tAndV, tOrV, tNotV, tIf, tNext, tBreak, tCont, gSub, tCall, tCallN, tAug, ipI, tBML, tBML0, isL_IL, isL_lst, L2.start, List.map_cons, List.map_nil, List.length_cons, List.length_nil, List.cons_append, List.nil_append, List.getElem?_cons_succ, List.getElem?_cons_zero, Option.some.injEq, exists_eq_left', exists_eq_left, exists_and_left, V.int.injEq, V.ref.injEq, V.bl.injEq, V.str.injEq, List.set_cons_zero, List.set_cons_succ, List.cons.injEq, and_true, true_and, Nat.reduceAdd, Nat.reduceSub, List.replicate_succ, List.replicate_zero, rIxI, rIxH, rIxTH, rSetI, rSetH, rCatI, rRepI, rSlI, rAppendI, rExtendI, decide_eq_true_eq, upd_same, IL_inj, HO.lst.injEq, toInts_cons, toInts_nil, Option.map_some, if_true, if_false, Bool.true_eq_false, Bool.false_eq_true, Bool.not_true, Bool.not_false, Bool.not_eq_true', decide_eq_false_iff_not, atI_0, atI_1, atI_2, atI_3, atI_4, Int.reduceToNat, Int.reduceLT, Int.reduceLE, Int.reduceNeg, Int.reducePow, cast_lit, upd_upd, Int.reduceAdd, Int.reduceMul, Int.reduceSub, Nat.reduceLT, Nat.reduceLeDiff, cmul_r, cdiv_r, tSl, tPart, tNoPart, rEq, rNe, scal_nn, scal_ii, scal_bb, scal_ss, scal_is, scal_si, V.ty.injEq, and_assoc, tyH_non, tyH_bl, tyH_int, tyH_str, tyH_ref, tyO_lst, tyO_IL, tyO_tup, itO_lst, itO_tup, itO_IL, rIxD, rLenI, rLenH, rLenTH, rLenQ, rLenB, rListI, rListS, rIntI, rIntB, rSumI, rIsiD, rIsX, tCallS, tMakeS, tMake, tMakeC, tMakeSC, tFld, sFld, HO.ins.injEq, HO.tup.injEq, cxOf_K, nox_K, tr_K, suite_K, rTupleI, rAllB, rAnyB, BL_inj, tChain, wOnly, wAs, wMany, rEqI, rNeI, rMax2, rMin2, rIsN, rIsNotN, rStrIn, rStrNotIn, not_true_eq_false, not_false_eq_true, reduceCtorEq, cl_bool, cl_int, cl_str, cl_list, cl_tuple, isB_NoneType_bool, isB_NoneType_int, isB_NoneType_str, isB_NoneType_list, isB_NoneType_tuple, isB_bool_bool, isB_bool_int, isB_bool_str, isB_bool_list, isB_bool_tuple, isB_int_bool, isB_int_int, isB_int_str, isB_int_list, isB_int_tuple, isB_str_bool, isB_str_int, isB_str_str, isB_str_list, isB_str_tuple, isB_list_bool, isB_list_int, isB_list_str, isB_list_list, isB_list_tuple, isB_tuple_bool, isB_tuple_int, isB_tuple_str, isB_tuple_list, isB_tuple_tuple]
  have hm0 : 0 ≤ m := by
    obtain ⟨i, _, e⟩ := hm.1
    omega
  have hm1 : m ≤ 1000 := by
    obtain ⟨i, _, e⟩ := hm.1
    have := hc i
    omega
  refine ⟨_, rfl, m, rfl, by omega, by omega, fun D hD => ?_⟩
  refine lc_rangeI (lo := 0) (n := m.toNat) (f := onesZ rs) (by omega) hD (fun _ => rfl) ?_ fun H2 s2 e2 => ?_
  · intro i H3 Q' hi s3 hq
    have hR3 := hR1.same s3
    have hR3' := hR3
    obtain ⟨as, hp, hl, ha⟩ := hR3'
    have ei : (0 : Int) + (i : Int) = (i : Int) := by omega
    try simp only [tSeq, tAsg, tVar, tC, tOp, rI0, rI, tUn, rU, tIfS, tTest, tRet, tRetN, tDrop, tCB, tCons, tNil, tLst, tLstI, tTup, gName, tB, tAnd, tOr, tNot, tAndV, tOrV, tNotV, tIf, tNext, tBreak, tCont, gSub, tCall, tCallN, tAug, ipI, tBML, tBML0, isL_IL, isL_lst, L2.start, List.map_cons, List.map_nil, List.length_cons, List.length_nil, List.cons_append, List.nil_append, List.getElem?_cons_succ, List.getElem?_cons_zero, Option.some.injEq, exists_eq_left', exists_eq_left, exists_and_left, V.int.injEq, V.ref.injEq, V.bl.injEq, V.str.injEq, List.set_cons_zero, List.set_cons_succ, List.cons.injEq, and_true, true_and, Nat.reduceAdd, Nat.reduceSub, List.replicate_succ, List.replicate_zero, rIxI, rIxH, rIxTH, rSetI, rSetH, rCatI, rRepI, rSlI, rAppendI, rExtendI, decide_eq_true_eq, upd_same, IL_inj, HO.lst.injEq, toInts_cons, toInts_nil, Option.map_some, if_true, if_false, Bool.true_eq_false, Bool.false_eq_true, Bool.not_true, Bool.not_false, Bool.not_eq_true', decide_eq_false_iff_not, atI_0, atI_1, atI_2, atI_3, atI_4, Int.reduceToNat, Int.reduceLT, Int.reduceLE, Int.reduceNeg, Int.reducePow, cast_lit, upd_upd, Int.reduceAdd, Int.reduceMul, Int.reduceSub, Nat.reduceLT, Nat.reduceLeDiff, cmul_r, cdiv_r, tSl, tPart, tNoPart, rEq, rNe, scal_nn, scal_ii, scal_bb, scal_ss, scal_is, scal_si, V.ty.injEq, and_assoc, tyH_non, tyH_bl, tyH_int, tyH_str, tyH_ref, tyO_lst, tyO_IL, tyO_tup, itO_lst, itO_tup, itO_IL, rIxD, rLenI, rLenH, rLenTH, rLenQ, rLenB, rListI, rListS, rIntI, rIntB, rSumI, rIsiD, rIsX, tCallS, tMakeS, tMake, tMakeC, tMakeSC, tFld, sFld, HO.ins.injEq, HO.tup.injEq, cxOf_K, nox_K, tr_K, suite_K, rTupleI, rAllB, rAnyB, BL_inj, tChain, wOnly, wAs, wMany, rEqI, rNeI, rMax2, rMin2, rIsN, rIsNotN, rStrIn, rStrNotIn, not_true_eq_false, not_false_eq_true, reduceCtorEq, cl_bool, cl_int, cl_str, cl_list, cl_tuple, isB_NoneType_bool, isB_NoneType_int, isB_NoneType_str, isB_NoneType_list, isB_NoneType_tuple, isB_bool_bool, isB_bool_int, isB_bool_str, isB_bool_list, isB_bool_tuple, isB_int_bool, isB_int_int, isB_int_str, isB_int_list, isB_int_tuple, isB_str_bool, isB_str_int, isB_str_str, isB_str_list, isB_str_tuple, isB_list_bool, isB_list_int, isB_list_str, isB_list_list, isB_list_tuple, isB_tuple_bool, isB_tuple_int, isB_tuple_str, isB_tuple_list, isB_tuple_tuple, wipe, ei]
    refine ⟨_, rfl, p, rfl, ⟨_, .of hp⟩, fun D2 hD2 => ?_⟩
    refine lc_listI (K := K) (a := p) (xs := as.map V.ref) (f := fun j => (rs.getD j []).getD i 0) (by rw [List.length_map]; omega) (.of hp) hD2 (fun _ => rfl) ?_ fun H4 s4 e4 => ?_
    · intro j x H5 Q2 hx s5 hq2
      obtain ⟨a, haj, rfl⟩ := refs_at hx
      have hlt : j < as.length := (List.getElem?_eq_some_iff.mp haj).1
      have b1 := hm.2 j (by omega)
      have e5 := s5 _ _ (ha j a haj)
      try simp only [tSeq, tAsg, tVar, tC, tOp, rI0, rI, tUn, rU, tIfS, tTest, tRet, tRetN, tDrop, tCB, tCons, tNil, tLst, tLstI, tTup, gName, tB, tAnd, tOr, tNot, tAndV, tOrV, tNotV, tIf, tNext, tBreak, tCont, gSub, tCall, tCallN, tAug, ipI, tBML, tBML0, isL_IL, isL_lst, L2.start, List.map_cons, List.map_nil, List.length_cons, List.length_nil, List.cons_append, List.nil_append, List.getElem?_cons_succ, List.getElem?_cons_zero, Option.some.injEq, exists_eq_left', exists_eq_left, exists_and_left, V.int.injEq, V.ref.injEq, V.bl.injEq, V.str.injEq, List.set_cons_zero, List.set_cons_succ, List.cons.injEq, and_true, true_and, Nat.reduceAdd, Nat.reduceSub, List.replicate_succ, List.replicate_zero, rIxI, rIxH, rIxTH, rSetI, rSetH, rCatI, rRepI, rSlI, rAppendI, rExtendI, decide_eq_true_eq, upd_same, IL_inj, HO.lst.injEq, toInts_cons, toInts_nil, Option.map_some, if_true, if_false, Bool.true_eq_false, Bool.false_eq_true, Bool.not_true, Bool.not_false, Bool.not_eq_true', decide_eq_false_iff_not, atI_0, atI_1, atI_2, atI_3, atI_4, Int.reduceToNat, Int.reduceLT, Int.reduceLE, Int.reduceNeg, Int.reducePow, cast_lit, upd_upd, Int.reduceAdd, Int.reduceMul, Int.reduceSub, Nat.reduceLT, Nat.reduceLeDiff, cmul_r, cdiv_r, tSl, tPart, tNoPart, rEq, rNe, scal_nn, scal_ii, scal_bb, scal_ss, scal_is, scal_si, V.ty.injEq, and_assoc, tyH_non, tyH_bl, tyH_int, tyH_str, tyH_ref, tyO_lst, tyO_IL, tyO_tup, itO_lst, itO_tup, itO_IL, rIxD, rLenI, rLenH, rLenTH, rLenQ, rLenB, rListI, rListS, rIntI, rIntB, rSumI, rIsiD, rIsX, tCallS, tMakeS, tMake, tMakeC, tMakeSC, tFld, sFld, HO.ins.injEq, HO.tup.injEq, cxOf_K, nox_K, tr_K, suite_K, rTupleI, rAllB, rAnyB, BL_inj, tChain, wOnly, wAs, wMany, rEqI, rNeI, rMax2, rMin2, rIsN, rIsNotN, rStrIn, rStrNotIn, not_true_eq_false, not_false_eq_true, reduceCtorEq, cl_bool, cl_int, cl_str, cl_list, cl_tuple, isB_NoneType_bool, isB_NoneType_int, isB_NoneType_str, isB_NoneType_list, isB_NoneType_tuple, isB_bool_bool, isB_bool_int, isB_bool_str, isB_bool_list, isB_bool_tuple, isB_int_bool, isB_int_int, isB_int_str, isB_int_list, isB_int_tuple, isB_str_bool, isB_str_int, isB_str_str, isB_str_list, isB_str_tuple, isB_list_bool, isB_list_int, isB_list_str, isB_list_list, isB_list_tuple, isB_tuple_bool, isB_tuple_int, isB_tuple_str, isB_tuple_list, isB_tuple_tuple, wipe, e5]
      exact ⟨by omega, by omega, hq2 H5 (Same.refl _)⟩
    · rw [List.length_map, hl] at e4
      try simp only [tSeq, tAsg, tVar, tC, tOp, rI0, rI, tUn, rU, tIfS, tTest, tRet, tRetN, tDrop, tCB, tCons, tNil, tLst, tLstI, tTup, gName, tB, tAnd, tOr, tNot, tAndV, tOrV, tNotV, tIf, tNext, tBreak, tCont, gSub, tCall, tCallN, tAug, ipI, tBML, tBML0, isL_IL, isL_lst, L2.start, List.map_cons, List.map_nil, List.length_cons, List.length_nil, List.cons_append, List.nil_append, List.getElem?_cons_succ, List.getElem?_cons_zero, Option.some.injEq, exists_eq_left', exists_eq_left, exists_and_left, V.int.injEq, V.ref.injEq, V.bl.injEq, V.str.injEq, List.set_cons_zero, List.set_cons_succ, List.cons.injEq, and_true, true_and, Nat.reduceAdd, Nat.reduceSub, List.replicate_succ, List.replicate_zero, rIxI, rIxH, rIxTH, rSetI, rSetH, rCatI, rRepI, rSlI, rAppendI, rExtendI, decide_eq_true_eq, upd_same, IL_inj, HO.lst.injEq, toInts_cons, toInts_nil, Option.map_some, if_true, if_false, Bool.true_eq_false, Bool.false_eq_true, Bool.not_true, Bool.not_false, Bool.not_eq_true', decide_eq_false_iff_not, atI_0, atI_1, atI_2, atI_3, atI_4, Int.reduceToNat, Int.reduceLT, Int.reduceLE, Int.reduceNeg, Int.reducePow, cast_lit, upd_upd, Int.reduceAdd, Int.reduceMul, Int.reduceSub, Nat.reduceLT, Nat.reduceLeDiff, cmul_r, cdiv_r, tSl, tPart, tNoPart, rEq, rNe, scal_nn, scal_ii, scal_bb, scal_ss, scal_is, scal_si, V.ty.injEq, and_assoc, tyH_non, tyH_bl, tyH_int, tyH_str, tyH_ref, tyO_lst, tyO_IL, tyO_tup, itO_lst, itO_tup, itO_IL, rIxD, rLenI, rLenH, rLenTH, rLenQ, rLenB, rListI, rListS, rIntI, rIntB, rSumI, rIsiD, rIsX, tCallS, tMakeS, tMake, tMakeC, tMakeSC, tFld, sFld, HO.ins.injEq, HO.tup.injEq, cxOf_K, nox_K, tr_K, suite_K, rTupleI, rAllB, rAnyB, BL_inj, tChain, wOnly, wAs, wMany, rEqI, rNeI, rMax2, rMin2, rIsN, rIsNotN, rStrIn, rStrNotIn, not_true_eq_false, not_false_eq_true, reduceCtorEq, cl_bool, cl_int, cl_str, cl_list, cl_tuple, isB_NoneType_bool, isB_NoneType_int, isB_NoneType_str, isB_NoneType_list, isB_NoneType_tuple, isB_bool_bool, isB_bool_int, isB_bool_str, isB_bool_list, isB_bool_tuple, isB_int_bool, isB_int_int, isB_int_str, isB_int_list, isB_int_tuple, isB_str_bool, isB_str_int, isB_str_str, isB_str_list, isB_str_tuple, isB_list_bool, isB_list_int, isB_list_str, isB_list_list, isB_list_tuple, isB_tuple_bool, isB_tuple_int, isB_tuple_str, isB_tuple_list, isB_tuple_tuple, e4]
      exact hq _ s4
  have hR2 := hR1.same s2
  try simp only [tSeq, tAsg, tVar, tC, tOp, rI0, rI, tUn, rU, tIfS, tTest, tRet, tRetN, tDrop, tCB, tCons, tNil, tLst, tLstI, tTup, gName, tB, tAnd, tOr, tNot, tAndV, tOrV, tNotV, tIf, tNext, tBreak, tCont, gSub, tCall, tCallN, tAug, ipI, tBML, tBML0, isL_IL, isL_lst, L2.start, List.map_cons, List.map_nil, List.length_cons, List.length_nil, List.cons_append, List.nil_append, List.getElem?_cons_succ, List.getElem?_cons_zero, Option.some.injEq, exists_eq_left', exists_eq_left, exists_and_left, V.int.injEq, V.ref.injEq, V.bl.injEq, V.str.injEq, List.set_cons_zero, List.set_cons_succ, List.cons.injEq, and_true, true_and, Nat.reduceAdd, Nat.reduceSub, List.replicate_succ, List.replicate_zero, rIxI, rIxH, rIxTH, rSetI, rSetH, rCatI, rRepI, rSlI, rAppendI, rExtendI, decide_eq_true_eq, upd_same, IL_inj, HO.lst.injEq, toInts_cons, toInts_nil, Option.map_some, if_true, if_false, Bool.true_eq_false, Bool.false_eq_true, Bool.not_true, Bool.not_false, Bool.not_eq_true', decide_eq_false_iff_not, atI_0, atI_1, atI_2, atI_3, atI_4, Int.reduceToNat, Int.reduceLT, Int.reduceLE, Int.reduceNeg, Int.reducePow, cast_lit, upd_upd, Int.reduceAdd, Int.reduceMul, Int.reduceSub, Nat.reduceLT, Nat.reduceLeDiff, cmul_r, cdiv_r, tSl, tPart, tNoPart, rEq, rNe, scal_nn, scal_ii, scal_bb, scal_ss, scal_is, scal_si, V.ty.injEq, and_assoc, tyH_non, tyH_bl, tyH_int, tyH_str, tyH_ref, tyO_lst, tyO_IL, tyO_tup, itO_lst, itO_tup, itO_IL, rIxD, rLenI, rLenH, rLenTH, rLenQ, rLenB, rListI, rListS, rIntI, rIntB, rSumI, rIsiD, rIsX, tCallS, tMakeS, tMake, tMakeC, tMakeSC, tFld, sFld, HO.ins.injEq, HO.tup.injEq, cxOf_K, nox_K, tr_K, suite_K, rTupleI, rAllB, rAnyB, BL_inj, tChain, wOnly, wAs, wMany, rEqI, rNeI, rMax2, rMin2, rIsN, rIsNotN, rStrIn, rStrNotIn, not_true_eq_false, not_false_eq_true, reduceCtorEq, cl_bool, cl_int, cl_str, cl_list, cl_tuple, isB_NoneType_bool, isB_NoneType_int, isB_NoneType_str, isB_NoneType_list, isB_NoneType_tuple, isB_bool_bool, isB_bool_int, isB_bool_str, isB_bool_list, isB_bool_tuple, isB_int_bool, isB_int_int, isB_int_str, isB_int_list, isB_int_tuple, isB_str_bool, isB_str_int, isB_str_str, isB_str_list, isB_str_tuple, isB_list_bool, isB_list_int, isB_list_str, isB_list_list, isB_list_tuple, isB_tuple_bool, isB_tuple_int, isB_tuple_str, isB_tuple_list, isB_tuple_tuple]
  refine ⟨_, rfl, D, rfl, ⟨_, .of e2⟩, fun D2 hD2 => ?_⟩
  refine lc_listI (K := K) (a := D) (xs := ((List.range m.toNat).map (onesZ rs)).map V.int) (f := fun i => if (rs.length : Int) < 2 * onesZ rs i then 1 else 0) (by rw [List.length_map, List.length_map, List.length_range]; omega) (.of e2) hD2 (fun _ => rfl) ?_ fun H4 s4 e4 => ?_
  · intro i x H5 Q2 hx s5 hq2
    obtain ⟨z, rfl, hz⟩ := ints_at hx
    have ez : z = onesZ rs i := by
      rw [List.getElem?_map] at hz
      cases hh : (List.range m.toNat)[i]? with
      | none => rw [hh] at hz; cases hz
      | some j =>
        rw [hh] at hz
        have := List.getElem?_eq_some_iff.mp hh
        obtain ⟨hlt, e⟩ := this
        rw [List.getElem_range] at e
        subst e
        exact (Option.some.inj hz).symm
    subst ez
    obtain ⟨as, hp, hl, ha⟩ := hR2.same s5
    have cm : CMul 2 (onesZ rs i) := .inl ⟨by decide, by decide⟩
    try simp only [tSeq, tAsg, tVar, tC, tOp, rI0, rI, tUn, rU, tIfS, tTest, tRet, tRetN, tDrop, tCB, tCons, tNil, tLst, tLstI, tTup, gName, tB, tAnd, tOr, tNot, tAndV, tOrV, tNotV, tIf, tNext, tBreak, tCont, gSub, tCall, tCallN, tAug, ipI, tBML, tBML0, isL_IL, isL_lst, L2.start, List.map_cons, List.map_nil, List.length_cons, List.length_nil, List.cons_append, List.nil_append, List.getElem?_cons_succ, List.getElem?_cons_zero, Option.some.injEq, exists_eq_left', exists_eq_left, exists_and_left, V.int.injEq, V.ref.injEq, V.bl.injEq, V.str.injEq, List.set_cons_zero, List.set_cons_succ, List.cons.injEq, and_true, true_and, Nat.reduceAdd, Nat.reduceSub, List.replicate_succ, List.replicate_zero, rIxI, rIxH, rIxTH, rSetI, rSetH, rCatI, rRepI, rSlI, rAppendI, rExtendI, decide_eq_true_eq, upd_same, IL_inj, HO.lst.injEq, toInts_cons, toInts_nil, Option.map_some, if_true, if_false, Bool.true_eq_false, Bool.false_eq_true, Bool.not_true, Bool.not_false, Bool.not_eq_true', decide_eq_false_iff_not, atI_0, atI_1, atI_2, atI_3, atI_4, Int.reduceToNat, Int.reduceLT, Int.reduceLE, Int.reduceNeg, Int.reducePow, cast_lit, upd_upd, Int.reduceAdd, Int.reduceMul, Int.reduceSub, Nat.reduceLT, Nat.reduceLeDiff, cmul_r, cdiv_r, tSl, tPart, tNoPart, rEq, rNe, scal_nn, scal_ii, scal_bb, scal_ss, scal_is, scal_si, V.ty.injEq, and_assoc, tyH_non, tyH_bl, tyH_int, tyH_str, tyH_ref, tyO_lst, tyO_IL, tyO_tup, itO_lst, itO_tup, itO_IL, rIxD, rLenI, rLenH, rLenTH, rLenQ, rLenB, rListI, rListS, rIntI, rIntB, rSumI, rIsiD, rIsX, tCallS, tMakeS, tMake, tMakeC, tMakeSC, tFld, sFld, HO.ins.injEq, HO.tup.injEq, cxOf_K, nox_K, tr_K, suite_K, rTupleI, rAllB, rAnyB, BL_inj, tChain, wOnly, wAs, wMany, rEqI, rNeI, rMax2, rMin2, rIsN, rIsNotN, rStrIn, rStrNotIn, not_true_eq_false, not_false_eq_true, reduceCtorEq, cl_bool, cl_int, cl_str, cl_list, cl_tuple, isB_NoneType_bool, isB_NoneType_int, isB_NoneType_str, isB_NoneType_list, isB_NoneType_tuple, isB_bool_bool, isB_bool_int, isB_bool_str, isB_bool_list, isB_bool_tuple, isB_int_bool, isB_int_int, isB_int_str, isB_int_list, isB_int_tuple, isB_str_bool, isB_str_int, isB_str_str, isB_str_list, isB_str_tuple, isB_list_bool, isB_list_int, isB_list_str, isB_list_list, isB_list_tuple, isB_tuple_bool, isB_tuple_int, isB_tuple_str, isB_tuple_list, isB_tuple_tuple, wipe, hp, cm, List.length_map, hl]
    have q := hq2 H5 (Same.refl _)
    by_cases c : (rs.length : Int) < 2 * onesZ rs i
    · rw [if_pos c]
      simp only [if_pos c] at q
      exact q
    · rw [if_neg c]
      simp only [if_neg c] at q
      exact q
  · rw [List.length_map, List.length_map, List.length_range] at e4
    exact k1 h0 D2 m H4 (s1.trans (s2.trans s4)) hm e4
end
section
variable {P : Program} {w : World} {K : PySem.W.Frag} {mg : Str → Option Value} {base : Heap} {A : Ad}
def spBad8 : Sp := fun vs H Q _ => ∃ z : Int, vs = [.int z] ∧ ∀ H', Same H H' → Q (.bl true) H'
theorem ok_law_bad (T : Tx K mg A) : FnOk P w K mg base CX0 3 A.f_law_bad A.d_law_bad ["way"] spBad8 := by
  refine T.F_law_bad.ok sc_law_bad (fun vs H Q E h => ?_) (fun cdv A' outer s H vs Q E hr h => ?_)
  · obtain ⟨z, rfl, _⟩ := h
    rfl
  obtain ⟨z, rfl, k⟩ := h
  refine ⟨_, (pss_cons (ps_try_only rfl rfl ⟨rfl, by decide, .inl T.x_DifferentLengths.g⟩ takes0 (fun W pn xe tk po => (pss_one (ps_if (pt_cmpR op_eq (pv 0) pe_int (nomark _)) (pss_one (ps_expr (pe_callS (ok_weak_places T) (hr.mono (by decide)) rfl T.g_weak_places T.F_weak_places.kp T.b_weak_places (fun σ => passAt tk σ) (pa_cons (pe_lstI pa_nil) pa_nil)))) (pss_one (ps_expr (pe_callS (ok_steady_cells T) (hr.mono (by decide)) rfl T.g_steady_cells T.F_steady_cells.kp T.b_steady_cells (fun σ => passAt tk σ) (pa_cons (pe_lstI pa_nil) pa_nil))))))) (fun a oe cls d pn hz hf => (pss_one (ps_ret pe_bl))))
      (pss_one (ps_ret pe_bl))), ?_⟩
  have ex := T.x_DifferentLengths.e
  have hR : ∀ u, RowsAt (upd H u (IL [])) u [] := fun u => ⟨[], upd_same, rfl, fun i a h => by simp at h⟩
  try simp only [tSeq, tAsg, tVar, tC, tOp, rI0, rI, tUn, rU, tIfS, tTest, tRet, tRetN, tDrop, tCB, tCons, tNil, tLst, tLstI, tTup, gName, tB, tAnd, tOr, tNot, tAndV, tOrV, tNotV, tIf, tNext, tBreak, tCont, gSub, tCall, tCallN, tAug, ipI, tBML, tBML0, isL_IL, isL_lst, L2.start, List.map_cons, List.map_nil, List.length_cons, List.length_nil, List.cons_append, List.nil_append, List.getElem?_cons_succ, List.getElem?_cons_zero, Option.some.injEq, exists_eq_left', exists_eq_left, exists_and_left, V.int.injEq, V.ref.injEq, V.bl.injEq, V.str.injEq, List.set_cons_zero, List.set_cons_succ, List.cons.injEq, and_true, true_and, Nat.reduceAdd, Nat.reduceSub, List.replicate_succ, List.replicate_zero, rIxI, rIxH, rIxTH, rSetI, rSetH, rCatI, rRepI, rSlI, rAppendI, rExtendI, decide_eq_true_eq, upd_same, IL_inj, HO.lst.injEq, toInts_cons, toInts_nil, Option.map_some, if_true, if_false, Bool.true_eq_false, Bool.false_eq_true, Bool.not_true, Bool.not_false, Bool.not_eq_true', decide_eq_false_iff_not, atI_0, atI_1, atI_2, atI_3, atI_4, Int.reduceToNat, Int.reduceLT, Int.reduceLE, Int.reduceNeg, Int.reducePow, cast_lit, upd_upd, Int.reduceAdd, Int.reduceMul, Int.reduceSub, Nat.reduceLT, Nat.reduceLeDiff, cmul_r, cdiv_r, tSl, tPart, tNoPart, rEq, rNe, scal_nn, scal_ii, scal_bb, scal_ss, scal_is, scal_si, V.ty.injEq, and_assoc, tyH_non, tyH_bl, tyH_int, tyH_str, tyH_ref, tyO_lst, tyO_IL, tyO_tup, itO_lst, itO_tup, itO_IL, rIxD, rLenI, rLenH, rLenTH, rLenQ, rLenB, rListI, rListS, rIntI, rIntB, rSumI, rIsiD, rIsX, tCallS, tMakeS, tMake, tMakeC, tMakeSC, tFld, sFld, HO.ins.injEq, HO.tup.injEq, cxOf_K, nox_K, tr_K, suite_K, rTupleI, rAllB, rAnyB, BL_inj, tChain, wOnly, wAs, wMany, rEqI, rNeI, rMax2, rMin2, rIsN, rIsNotN, rStrIn, rStrNotIn, not_true_eq_false, not_false_eq_true, reduceCtorEq, cl_bool, cl_int, cl_str, cl_list, cl_tuple, isB_NoneType_bool, isB_NoneType_int, isB_NoneType_str, isB_NoneType_list, isB_NoneType_tuple, isB_bool_bool, isB_bool_int, isB_bool_str, isB_bool_list, isB_bool_tuple, isB_int_bool, isB_int_int, isB_int_str, isB_int_list, isB_int_tuple, isB_str_bool, isB_str_int, isB_str_str, isB_str_list, isB_str_tuple, isB_list_bool, isB_list_int, isB_list_str, isB_list_list, isB_list_tuple, isB_tuple_bool, isB_tuple_int, isB_tuple_str, isB_tuple_list, isB_tuple_tuple]
  by_cases hz : z = 0
  · try simp only [tSeq, tAsg, tVar, tC, tOp, rI0, rI, tUn, rU, tIfS, tTest, tRet, tRetN, tDrop, tCB, tCons, tNil, tLst, tLstI, tTup, gName, tB, tAnd, tOr, tNot, tAndV, tOrV, tNotV, tIf, tNext, tBreak, tCont, gSub, tCall, tCallN, tAug, ipI, tBML, tBML0, isL_IL, isL_lst, L2.start, List.map_cons, List.map_nil, List.length_cons, List.length_nil, List.cons_append, List.nil_append, List.getElem?_cons_succ, List.getElem?_cons_zero, Option.some.injEq, exists_eq_left', exists_eq_left, exists_and_left, V.int.injEq, V.ref.injEq, V.bl.injEq, V.str.injEq, List.set_cons_zero, List.set_cons_succ, List.cons.injEq, and_true, true_and, Nat.reduceAdd, Nat.reduceSub, List.replicate_succ, List.replicate_zero, rIxI, rIxH, rIxTH, rSetI, rSetH, rCatI, rRepI, rSlI, rAppendI, rExtendI, decide_eq_true_eq, upd_same, IL_inj, HO.lst.injEq, toInts_cons, toInts_nil, Option.map_some, if_true, if_false, Bool.true_eq_false, Bool.false_eq_true, Bool.not_true, Bool.not_false, Bool.not_eq_true', decide_eq_false_iff_not, atI_0, atI_1, atI_2, atI_3, atI_4, Int.reduceToNat, Int.reduceLT, Int.reduceLE, Int.reduceNeg, Int.reducePow, cast_lit, upd_upd, Int.reduceAdd, Int.reduceMul, Int.reduceSub, Nat.reduceLT, Nat.reduceLeDiff, cmul_r, cdiv_r, tSl, tPart, tNoPart, rEq, rNe, scal_nn, scal_ii, scal_bb, scal_ss, scal_is, scal_si, V.ty.injEq, and_assoc, tyH_non, tyH_bl, tyH_int, tyH_str, tyH_ref, tyO_lst, tyO_IL, tyO_tup, itO_lst, itO_tup, itO_IL, rIxD, rLenI, rLenH, rLenTH, rLenQ, rLenB, rListI, rListS, rIntI, rIntB, rSumI, rIsiD, rIsX, tCallS, tMakeS, tMake, tMakeC, tMakeSC, tFld, sFld, HO.ins.injEq, HO.tup.injEq, cxOf_K, nox_K, tr_K, suite_K, rTupleI, rAllB, rAnyB, BL_inj, tChain, wOnly, wAs, wMany, rEqI, rNeI, rMax2, rMin2, rIsN, rIsNotN, rStrIn, rStrNotIn, not_true_eq_false, not_false_eq_true, reduceCtorEq, cl_bool, cl_int, cl_str, cl_list, cl_tuple, isB_NoneType_bool, isB_NoneType_int, isB_NoneType_str, isB_NoneType_list, isB_NoneType_tuple, isB_bool_bool, isB_bool_int, isB_bool_str, isB_bool_list, isB_bool_tuple, isB_int_bool, isB_int_int, isB_int_str, isB_int_list, isB_int_tuple, isB_str_bool, isB_str_int, isB_str_str, isB_str_list, isB_str_tuple, isB_list_bool, isB_list_int, isB_list_str, isB_list_list, isB_list_tuple, isB_tuple_bool, isB_tuple_int, isB_tuple_str, isB_tuple_list, isB_tuple_tuple, hz]
    refine ⟨line_le (by decide), fun u hu => ?_⟩
    refine ⟨u, [], rfl, hR u, by decide, fun i => by simp, fun h => absurd h (by decide), fun _ => ?_⟩
    try simp only [tSeq, tAsg, tVar, tC, tOp, rI0, rI, tUn, rU, tIfS, tTest, tRet, tRetN, tDrop, tCB, tCons, tNil, tLst, tLstI, tTup, gName, tB, tAnd, tOr, tNot, tAndV, tOrV, tNotV, tIf, tNext, tBreak, tCont, gSub, tCall, tCallN, tAug, ipI, tBML, tBML0, isL_IL, isL_lst, L2.start, List.map_cons, List.map_nil, List.length_cons, List.length_nil, List.cons_append, List.nil_append, List.getElem?_cons_succ, List.getElem?_cons_zero, Option.some.injEq, exists_eq_left', exists_eq_left, exists_and_left, V.int.injEq, V.ref.injEq, V.bl.injEq, V.str.injEq, List.set_cons_zero, List.set_cons_succ, List.cons.injEq, and_true, true_and, Nat.reduceAdd, Nat.reduceSub, List.replicate_succ, List.replicate_zero, rIxI, rIxH, rIxTH, rSetI, rSetH, rCatI, rRepI, rSlI, rAppendI, rExtendI, decide_eq_true_eq, upd_same, IL_inj, HO.lst.injEq, toInts_cons, toInts_nil, Option.map_some, if_true, if_false, Bool.true_eq_false, Bool.false_eq_true, Bool.not_true, Bool.not_false, Bool.not_eq_true', decide_eq_false_iff_not, atI_0, atI_1, atI_2, atI_3, atI_4, Int.reduceToNat, Int.reduceLT, Int.reduceLE, Int.reduceNeg, Int.reducePow, cast_lit, upd_upd, Int.reduceAdd, Int.reduceMul, Int.reduceSub, Nat.reduceLT, Nat.reduceLeDiff, cmul_r, cdiv_r, tSl, tPart, tNoPart, rEq, rNe, scal_nn, scal_ii, scal_bb, scal_ss, scal_is, scal_si, V.ty.injEq, and_assoc, tyH_non, tyH_bl, tyH_int, tyH_str, tyH_ref, tyO_lst, tyO_IL, tyO_tup, itO_lst, itO_tup, itO_IL, rIxD, rLenI, rLenH, rLenTH, rLenQ, rLenB, rListI, rListS, rIntI, rIntB, rSumI, rIsiD, rIsX, tCallS, tMakeS, tMake, tMakeC, tMakeSC, tFld, sFld, HO.ins.injEq, HO.tup.injEq, cxOf_K, nox_K, tr_K, suite_K, rTupleI, rAllB, rAnyB, BL_inj, tChain, wOnly, wAs, wMany, rEqI, rNeI, rMax2, rMin2, rIsN, rIsNotN, rStrIn, rStrNotIn, not_true_eq_false, not_false_eq_true, reduceCtorEq, cl_bool, cl_int, cl_str, cl_list, cl_tuple, isB_NoneType_bool, isB_NoneType_int, isB_NoneType_str, isB_NoneType_list, isB_NoneType_tuple, isB_bool_bool, isB_bool_int, isB_bool_str, isB_bool_list, isB_bool_tuple, isB_int_bool, isB_int_int, isB_int_str, isB_int_list, isB_int_tuple, isB_str_bool, isB_str_int, isB_str_str, isB_str_list, isB_str_tuple, isB_list_bool, isB_list_int, isB_list_str, isB_list_list, isB_list_tuple, isB_tuple_bool, isB_tuple_int, isB_tuple_str, isB_tuple_list, isB_tuple_tuple, ex]
    exact ⟨fun _ a2 h2 => k _ (same_new hu _), fun h => h.elim⟩
  · rw [if_neg hz]
    refine ⟨line_le (by decide), fun u hu => ?_⟩
    refine ⟨u, [], rfl, hR u, by decide, fun i => by simp, fun h => absurd h (by decide), fun _ => ?_⟩
    try simp only [tSeq, tAsg, tVar, tC, tOp, rI0, rI, tUn, rU, tIfS, tTest, tRet, tRetN, tDrop, tCB, tCons, tNil, tLst, tLstI, tTup, gName, tB, tAnd, tOr, tNot, tAndV, tOrV, tNotV, tIf, tNext, tBreak, tCont, gSub, tCall, tCallN, tAug, ipI, tBML, tBML0, isL_IL, isL_lst, L2.start, List.map_cons, List.map_nil, List.length_cons, List.length_nil, List.cons_append, List.nil_append, List.getElem?_cons_succ, List.getElem?_cons_zero, Option.some.injEq, exists_eq_left', exists_eq_left, exists_and_left, V.int.injEq, V.ref.injEq, V.bl.injEq, V.str.injEq, List.set_cons_zero, List.set_cons_succ, List.cons.injEq, and_true, true_and, Nat.reduceAdd, Nat.reduceSub, List.replicate_succ, List.replicate_zero, rIxI, rIxH, rIxTH, rSetI, rSetH, rCatI, rRepI, rSlI, rAppendI, rExtendI, decide_eq_true_eq, upd_same, IL_inj, HO.lst.injEq, toInts_cons, toInts_nil, Option.map_some, if_true, if_false, Bool.true_eq_false, Bool.false_eq_true, Bool.not_true, Bool.not_false, Bool.not_eq_true', decide_eq_false_iff_not, atI_0, atI_1, atI_2, atI_3, atI_4, Int.reduceToNat, Int.reduceLT, Int.reduceLE, Int.reduceNeg, Int.reducePow, cast_lit, upd_upd, Int.reduceAdd, Int.reduceMul, Int.reduceSub, Nat.reduceLT, Nat.reduceLeDiff, cmul_r, cdiv_r, tSl, tPart, tNoPart, rEq, rNe, scal_nn, scal_ii, scal_bb, scal_ss, scal_is, scal_si, V.ty.injEq, and_assoc, tyH_non, tyH_bl, tyH_int, tyH_str, tyH_ref, tyO_lst, tyO_IL, tyO_tup, itO_lst, itO_tup, itO_IL, rIxD, rLenI, rLenH, rLenTH, rLenQ, rLenB, rListI, rListS, rIntI, rIntB, rSumI, rIsiD, rIsX, tCallS, tMakeS, tMake, tMakeC, tMakeSC, tFld, sFld, HO.ins.injEq, HO.tup.injEq, cxOf_K, nox_K, tr_K, suite_K, rTupleI, rAllB, rAnyB, BL_inj, tChain, wOnly, wAs, wMany, rEqI, rNeI, rMax2, rMin2, rIsN, rIsNotN, rStrIn, rStrNotIn, not_true_eq_false, not_false_eq_true, reduceCtorEq, cl_bool, cl_int, cl_str, cl_list, cl_tuple, isB_NoneType_bool, isB_NoneType_int, isB_NoneType_str, isB_NoneType_list, isB_NoneType_tuple, isB_bool_bool, isB_bool_int, isB_bool_str, isB_bool_list, isB_bool_tuple, isB_int_bool, isB_int_int, isB_int_str, isB_int_list, isB_int_tuple, isB_str_bool, isB_str_int, isB_str_str, isB_str_list, isB_str_tuple, isB_list_bool, isB_list_int, isB_list_str, isB_list_list, isB_list_tuple, isB_tuple_bool, isB_tuple_int, isB_tuple_str, isB_tuple_list, isB_tuple_tuple, ex]
    exact ⟨fun _ a2 h2 => k _ (same_new hu _), fun h => h.elim⟩
end
section
variable {P : Program} {w : World} {K : PySem.W.Frag} {mg : Str → Option Value} {base : Heap} {A : Ad}
def Bit (v : Int) : Prop := v = 0 ∨ v = 1
theorem filter_lt {p : Nat → Bool} : ∀ l : List Nat, (l.filter p).length < l.length ↔ ∃ j ∈ l, p j = false
  | [] => by simp
  | n :: r => by
    have ih := filter_lt (p := p) r
    have le := List.length_filter_le p r
    cases h : p n with
    | true =>
      rw [List.filter_cons_of_pos h, List.length_cons, List.length_cons]
      constructor
      · intro q
        obtain ⟨j, hj, e⟩ := ih.mp (by omega)
        exact ⟨j, List.mem_cons_of_mem _ hj, e⟩
      · rintro ⟨j, hj, e⟩
        rcases List.mem_cons.mp hj with rfl | hj
        · rw [h] at e; cases e
        · have := ih.mpr ⟨j, hj, e⟩
          omega
    | false =>
      rw [List.filter_cons_of_neg (by rw [h]; decide), List.length_cons]
      exact ⟨fun _ => ⟨n, List.mem_cons_self, h⟩, fun _ => by omega⟩
theorem filter_pos {p : Nat → Bool} : ∀ l : List Nat, 0 < (l.filter p).length ↔ ∃ j ∈ l, p j = true
  | [] => by simp
  | n :: r => by
    have ih := filter_pos (p := p) r
    cases h : p n with
    | true =>
      rw [List.filter_cons_of_pos h, List.length_cons]
      exact ⟨fun _ => ⟨n, List.mem_cons_self, h⟩, fun _ => by omega⟩
    | false =>
      rw [List.filter_cons_of_neg (by rw [h]; decide)]
      constructor
      · intro q
        obtain ⟨j, hj, e⟩ := ih.mp q
        exact ⟨j, List.mem_cons_of_mem _ hj, e⟩
      · rintro ⟨j, hj, e⟩
        rcases List.mem_cons.mp hj with rfl | hj
        · rw [h] at e; cases e
        · exact ih.mpr ⟨j, hj, e⟩
theorem sum_bits {f : Nat → Int} : ∀ l : List Nat, (∀ j ∈ l, Bit (f j)) → (l.map f).sum = ((l.filter fun j => decide (f j = 1)).length : Int)
  | [], _ => rfl
  | n :: r, h => by
    have ih := sum_bits (f := f) r (fun j hj => h j (List.mem_cons_of_mem _ hj))
    rw [List.map_cons, List.sum_cons, ih]
    rcases h n List.mem_cons_self with e | e
    · rw [List.filter_cons_of_neg (by rw [e]; decide), e]
      omega
    · rw [List.filter_cons_of_pos (by rw [e]; decide), List.length_cons, e]
      omega
/-- how many of the lists have a 1 there -/
def onesN (rs : List (List Int)) (i : Nat) : Nat := ((List.range rs.length).filter fun j => decide ((rs.getD j []).getD i 0 = 1)).length
theorem ones_eq {rs : List (List Int)} {i : Nat} (h : ∀ j, j < rs.length → Bit ((rs.getD j []).getD i 0)) : onesZ rs i = (onesN rs i : Int) :=
  sum_bits _ fun j hj => h j (List.mem_range.mp hj)
theorem weak_eq {rs : List (List Int)} {i : Nat} (h0 : 0 < rs.length) (h : ∀ j, j < rs.length → Bit ((rs.getD j []).getD i 0)) : isWeak rs i = true ↔ 0 < onesN rs i ∧ onesN rs i < rs.length := by
  have f1 := filter_pos (p := fun j => decide ((rs.getD j []).getD i 0 = 1)) (List.range rs.length)
  have f2 := filter_lt (p := fun j => decide ((rs.getD j []).getD i 0 = 1)) (List.range rs.length)
  rw [List.length_range] at f2
  unfold onesN
  rw [f1, f2]
  unfold isWeak
  rw [List.any_map, List.any_eq_true]
  constructor
  · rintro ⟨j, hj, e⟩
    have hj' := List.mem_range.mp hj
    have m0 : 0 ∈ List.range rs.length := List.mem_range.mpr h0
    simp only [Function.comp, id] at e
    have ne : (rs.getD j []).getD i 0 ≠ (rs.getD 0 []).getD i 0 := fun q => by
      rw [decide_eq_true q] at e
      cases e
    rcases h j hj' with a | a <;> rcases h 0 h0 with b | b
    · exact absurd (a.trans b.symm) ne
    · exact ⟨⟨0, m0, decide_eq_true b⟩, ⟨j, hj, decide_eq_false (by omega)⟩⟩
    · exact ⟨⟨j, hj, decide_eq_true a⟩, ⟨0, m0, decide_eq_false (by omega)⟩⟩
    · exact absurd (a.trans b.symm) ne
  · rintro ⟨⟨j, hj, a⟩, ⟨l, hl, b⟩⟩
    have a' := of_decide_eq_true a
    have b' := of_decide_eq_false b
    by_cases q : (rs.getD 0 []).getD i 0 = 1
    · refine ⟨l, hl, ?_⟩
      simp only [Function.comp, id]
      rw [decide_eq_false (by omega)]
      rfl
    · refine ⟨j, hj, ?_⟩
      simp only [Function.comp, id]
      rw [decide_eq_false (by omega)]
      rfl
theorem weakZ_more {rs : List (List Int)} {i : Nat} : weakZ rs ((i + 1 : Nat) : Int) = weakZ rs (i : Int) ++ (if isWeak rs i = true then [(i : Int)] else []) := by
  show (((List.range (i + 1)).filter (isWeak rs)).map fun i : Nat => (i : Int)) = (((List.range i).filter (isWeak rs)).map fun i : Nat => (i : Int)) ++ _
  rw [List.range_succ, List.filter_append, List.map_append]
  cases h : isWeak rs i with
  | true => rw [List.filter_cons_of_pos h, if_pos rfl]; rfl
  | false => rw [List.filter_cons_of_neg (by rw [h]; decide), if_neg (by decide)]; rfl
theorem weakZ_len (rs : List (List Int)) (i : Nat) : (weakZ rs (i : Int)).length ≤ i := by
  show (((List.range i).filter (isWeak rs)).map fun i : Nat => (i : Int)).length ≤ i
  rw [List.length_map]
  have := List.length_filter_le (isWeak rs) (List.range i)
  rw [List.length_range] at this
  exact this
theorem steadyZ_more {rs : List (List Int)} {i : Nat} : steadyZ rs ((i + 1 : Nat) : Int) = steadyZ rs (i : Int) ++ [if (rs.length : Int) < 2 * onesZ rs i then 1 else 0] := by
  show (List.range (i + 1)).map _ = (List.range i).map _ ++ _
  rw [List.range_succ, List.map_append]
  rfl
theorem steadyZ_len (rs : List (List Int)) (i : Nat) : (steadyZ rs (i : Int)).length = i := by
  show ((List.range i).map _).length = i
  rw [List.length_map, List.length_range]
theorem least_one {rs : List (List Int)} {m n : Int} (a : Least m rs) (b : Least n rs) : m = n := by
  obtain ⟨⟨i, hi, e⟩, ha⟩ := a
  obtain ⟨⟨j, hj, q⟩, hb⟩ := b
  have := ha j hj
  have := hb i hi
  omega
/-- the lists of lists as data -/
def LL (rs : List (List Int)) : List PyData := rs.map fun r => .list (r.map PyData.int)
theorem dp_LL {K : PySem.W.Frag} {H : Hp} : ∀ (as : List Addr) (rs : List (List Int)), as.length = rs.length → (∀ i a, as[i]? = some a → H a = some (IL (rs.getD i []))) → DpAll K H (as.map V.ref) (LL rs)
  | [], [], _, _ => .nil
  | a :: as, r :: rs, hl, h => .cons (dp_IL (h 0 a rfl)) (dp_LL as rs (by simpa using hl) fun i a e => h (i + 1) a e)
  | [], _ :: _, hl, _ => by simp at hl
  | _ :: _, [], hl, _ => by simp at hl
theorem RowsAt.dp {K : PySem.W.Frag} {H : Hp} {p : Addr} {rs : List (List Int)} (h : RowsAt H p rs) : Dp K H (.ref p) (.list (LL rs)) := by
  obtain ⟨as, h1, h2, h3⟩ := h
  exact .lst (.of h1) (dp_LL as rs h2 h3)
theorem LL_lay : ∀ rs : List (List Int), PyData.canLayAll0 (LL rs) = true
  | [] => rfl
  | r :: rs => by
    show PyData.canLayAll0 (.list (r.map PyData.int) :: LL rs) = true
    rw [PyData.canLayAll0, LL_lay rs, PyData.canLay0, canLay_ints r]
    rfl
theorem LL_depth : ∀ rs : List (List Int), PyData.depthAll (LL rs) ≤ 3
  | [] => by decide
  | r :: rs => by
    show PyData.depthAll (.list (r.map PyData.int) :: LL rs) ≤ 3
    have h1 := LL_depth rs
    have h2 := Dw.depthAll_ints r
    simp only [PyData.depthAll, PyData.depth]
    omega
theorem shaped_LL (rs : List (List Int)) : SeqAt.shaped (.list (LL rs)) = true := by
  have h1 := LL_lay rs
  have h2 := LL_depth rs
  unfold SeqAt.shaped
  rw [Bool.and_eq_true]
  refine ⟨by rw [PyData.canLay0]; exact h1, decide_eq_true ?_⟩
  simp only [PyData.depth]
  omega
theorem eqv_LL : ∀ rs : List (List Int), PyData.eqvAll (LL rs) (LL rs) = true
  | [] => by
    show PyData.eqvAll [] [] = _
    rw [PyData.eqvAll]
  | r :: rs => by
    show PyData.eqvAll (.list (r.map PyData.int) :: LL rs) (.list (r.map PyData.int) :: LL rs) = true
    rw [PyData.eqvAll, eqv_LL rs, PyData.eqv, eqvAll_ints, decide_eq_true rfl]
    rfl
theorem RowsAt.push {H : Hp} {p u : Addr} {as : List Addr} {rs : List (List Int)} {r : List Int} (h1 : H p = some (.lst (as.map V.ref))) (h2 : as.length = rs.length) (h3 : ∀ i a, as[i]? = some a → H a = some (IL (rs.getD i []))) (hu : H u = some (IL r)) (n : u ≠ p) :
    RowsAt (upd H p (.lst (as.map V.ref ++ [.ref u]))) p (rs ++ [r]) := by
  refine ⟨as ++ [u], by rw [upd_same, List.map_append]; rfl, by rw [List.length_append, List.length_append, h2]; rfl, fun i a e => ?_⟩
  by_cases hi : i < as.length
  · rw [List.getElem?_append_left hi] at e
    have e3 := h3 i a e
    have na : a ≠ p := fun q => by
      subst q
      rw [h1] at e3
      unfold IL at e3
      injection e3 with e3
      injection e3 with e3
      cases as with
      | nil => simp at hi
      | cons b bs =>
        cases hr : rs.getD i [] with
        | nil => rw [hr] at e3; cases e3
        | cons c cs => rw [hr] at e3; cases e3
    rw [upd_ne na, e3]
    rw [List.getD_eq_getElem?_getD, List.getD_eq_getElem?_getD, List.getElem?_append_left (by omega)]
  · have hi' : i = as.length := by
      have := (List.getElem?_eq_some_iff.mp e).1
      rw [List.length_append] at this
      simp at this
      omega
    subst hi'
    rw [List.getElem?_append_right (Nat.le_refl _), Nat.sub_self] at e
    cases e
    rw [upd_ne n, hu, List.getD_eq_getElem?_getD, List.getElem?_append_right (by omega), h2, Nat.sub_self]
    rfl
def spLaw (K : PySem.W.Frag) : Sp := fun vs H Q _ => ∃ (a : Addr) (ns : List Int), vs = [.ref a] ∧ SqL K H a (ns.map V.int) ∧ ns.length ≤ 63 ∧ ∀ H', Q (.bl true) H'
def rowOk (r : List Int) : Prop := 12 ≤ r.length ∧ r.length ≤ 20 ∧ ∀ v ∈ r, Bit v
theorem rowOk.bit {r : List Int} (h : rowOk r) (i : Nat) : Bit (r.getD i 0) := by
  rw [List.getD_eq_getElem?_getD]
  cases e : r[i]? with
  | none => exact .inl rfl
  | some v => exact h.2.2 v (List.mem_of_getElem? e)
theorem ok_law (T : Tx K mg A) : FnOk P w K mg base CX0 4 A.f_law A.d_law ["script"] (spLaw K) := by
  refine T.F_law.ok sc_law (fun vs H Q E h => ?_) (fun cdv A' outer s H vs Q E hr h => ?_)
  · obtain ⟨a, ns, rfl, _⟩ := h
    rfl
  obtain ⟨a, ss, rfl, hS, hl, k⟩ := h
  refine ⟨_, (pss_cons (ps_set (i := 1) sc_law.nd rfl (Or.inr rfl) (pe_call (ok_law_draws T) (hr.mono (by decide)) rfl T.g_law_draws T.F_law_draws.kp T.b_law_draws .nil pass0 (pa_cons (pe_call (ok_law_cell T) (hr.mono (by decide)) rfl T.g_law_cell T.F_law_cell.kp T.b_law_cell .nil pass0 (pa_cons (pv 0) (pa_cons pe_int pa_nil))) (pa_cons pe_int pa_nil))))
      (pss_cons (ps_setLc (i := 2) (own := [("k", 3)]) (g := gName 3) (tt := tYes) rfl sc_law.nd rfl rfl (sw_true rfl rfl rfl (by decide +kernel)) (pi_range1 rfl T.z_range (pa_cons pe_int pa_nil)) (blkOk_by (N := n_law) (sc := (defScope s_law)) (by decide +kernel)) (fun _ _ _ _ _ => (pg_name (i := 3) sc_law.nd rfl (Or.inl rfl))) (fun _ _ _ _ _ => pts_nil) (fun _ _ _ _ _ => (pe_op op_mod (pe_ix ix_listI (pv 1) (pe_op op_add pe_int (pv 3)) (fun _ _ => rfl)) pe_int)))
      (pss_cons (ps_set (i := 4) sc_law.nd rfl (Or.inl rfl) (pe_lstI pa_nil))
      (pss_cons (ps_for PassesOwn.never rfl (pi_range1 rfl T.z_range (pa_cons (pe_op op_add pe_int (pe_op op_mod (pe_ix ix_listI (pv 1) pe_int (fun _ _ => rfl)) pe_int)) pa_nil)) (pg_name (i := 3) sc_law.nd rfl (Or.inl rfl))
        (pss_cons (ps_set (i := 5) sc_law.nd rfl (Or.inl rfl) (pe_lstI pa_nil))
      (pss_cons (ps_for PassesOwn.never rfl (pi_range1 rfl T.z_range (pa_cons (pe_op op_add pe_int (pe_op op_mod (pe_ix ix_listI (pv 1) (pe_op op_add pe_int (pv 3)) (fun _ _ => rfl)) pe_int)) pa_nil)) (pg_name (i := 6) sc_law.nd rfl (Or.inr rfl))
        (pss_cons (ps_set (i := 7) sc_law.nd rfl (Or.inl rfl) (pe_cmpR op_eq (pe_op op_mod (pe_ix ix_listI (pv 1) (pe_op op_add pe_int (pe_op op_mod (pe_op op_add (pe_op op_mul pe_int (pv 3)) (pv 6)) pe_int)) (fun _ _ => rfl)) pe_int) pe_int (nomark _)))
      (pss_one (ps_expr (PE.imp (pe_bm PySem.F.plainAttrs_list PySem.F.slot_list_append PySem.F.type_list_append mt_appendI (pv 5) (pa_cons (pe_ix ix_listI (pe_lstI (pa_cons (pe_ix ix_listI (pv 2) (pv 6) (fun _ _ => rfl)) (pa_cons (pe_op op_sub pe_int (pe_ix ix_listI (pv 2) (pv 6) (fun _ _ => rfl))) pa_nil))) (pe_callTy call_intB (by rfl) T.z_int (by decide +kernel) (pa_cons (pv 7) pa_nil)) (fun _ _ => rfl)) pa_nil)) bml_imp)))))
      (pss_one (ps_expr (PE.imp (pe_bm PySem.F.plainAttrs_list PySem.F.slot_list_append PySem.F.type_list_append mt_append (pv 4) (pa_cons (pv 5) pa_nil)) bml_imp))))))
      (pss_cons (ps_set (i := 8) sc_law.nd rfl (Or.inl rfl) (pe_callB (cr_min rfl) (by rfl) T.z_min (by decide +kernel) (pa_cons (pe_lc (own := [("row", 5)]) (g := gName 5) (tt := tYes) rfl sc_law.nd (pi_list (pv 4)) (blkOk_by (N := n_law) (sc := (defScope s_law)) (by decide +kernel)) (fun _ _ _ _ _ => (pg_name (i := 5) sc_law.nd rfl (Or.inl rfl))) (fun _ _ _ _ _ => pts_nil) (fun _ _ _ _ _ => (pe_callB call_lenI (by rfl) T.z_len (by decide +kernel) (pa_cons (pv 5) pa_nil)))) pa_nil)))
      (pss_cons (ps_set (i := 9) sc_law.nd rfl (Or.inl rfl) (pe_lstI pa_nil))
      (pss_cons (ps_set (i := 10) sc_law.nd rfl (Or.inl rfl) (pe_lstI pa_nil))
      (pss_cons (ps_for PassesOwn.never rfl (pi_range1 rfl T.z_range (pa_cons (pv 8) pa_nil)) (pg_name (i := 6) sc_law.nd rfl (Or.inr rfl))
        (pss_cons (ps_set (i := 11) sc_law.nd rfl (Or.inl rfl) (pe_callB call_lenH (by rfl) T.z_len (by decide +kernel) (pa_cons (pe_lc (own := [("row", 5)]) (g := gName 5) rfl sc_law.nd (pi_list (pv 4)) (blkOk_by (N := n_law) (sc := (defScope s_law)) (by decide +kernel)) (fun _ _ _ _ _ => (pg_name (i := 5) sc_law.nd rfl (Or.inl rfl))) (fun _ _ _ _ _ => (pts_one (pt_cmpR op_eq (pe_ix ix_listI (pv 5) (pv 6) (fun _ _ => rfl)) pe_int (nomark _)))) (fun _ _ _ _ _ => (pv 5))) pa_nil)))
      (pss_cons (ps_if (PW.pt (pw_and (pt_cmpR op_gt (pv 11) pe_int (nomark _)) (pw_and1 (pt_cmpR op_lt (pv 11) (pe_callB call_lenH (by rfl) T.z_len (by decide +kernel) (pa_cons (pv 4) pa_nil)) (nomark _))))) (pss_one (ps_expr (PE.imp (pe_bm PySem.F.plainAttrs_list PySem.F.slot_list_append PySem.F.type_list_append mt_appendI (pv 9) (pa_cons (pv 6) pa_nil)) bml_imp))) pss_nil)
      (pss_one (ps_expr (PE.imp (pe_bm PySem.F.plainAttrs_list PySem.F.slot_list_append PySem.F.type_list_append mt_appendI (pv 10) (pa_cons (pe_callTy call_intB (by rfl) T.z_int (by decide +kernel) (pa_cons (pe_cmpR op_gt (pe_op op_mul pe_int (pv 11)) (pe_callB call_lenH (by rfl) T.z_len (by decide +kernel) (pa_cons (pv 4) pa_nil)) (nomark _)) pa_nil)) pa_nil)) bml_imp))))))
      (pss_cons (ps_setLc (i := 12) (own := [("row", 5)]) (g := gName 5) (tt := tYes) rfl sc_law.nd rfl rfl (sw_true rfl rfl rfl (by decide +kernel)) (pi_list (pv 4)) (blkOk_by (N := n_law) (sc := (defScope s_law)) (by decide +kernel)) (fun _ _ _ _ _ => (pg_name (i := 5) sc_law.nd rfl (Or.inl rfl))) (fun _ _ _ _ _ => pts_nil) (fun _ _ _ _ _ => (pe_callTy call_listI (by rfl) T.z_list (by decide +kernel) (pa_cons (pv 5) pa_nil))))
      (pss_cons (ps_if (PW.pt (pw_or (pt_not (pt_val (pe_call (ok_law_is_list T) (hr.mono (by decide)) rfl T.g_law_is_list T.F_law_is_list.kp T.b_law_is_list .nil pass0 (pa_cons (pe_call (ok_weak_places T) (hr.mono (by decide)) rfl T.g_weak_places T.F_weak_places.kp T.b_weak_places .nil passL (pa_cons (pv 12) pa_nil)) (pa_cons (pv 9) pa_nil))))) (pw_or (pt_not (pt_val (pe_call (ok_law_is_list T) (hr.mono (by decide)) rfl T.g_law_is_list T.F_law_is_list.kp T.b_law_is_list .nil pass0 (pa_cons (pe_call (ok_steady_cells T) (hr.mono (by decide)) rfl T.g_steady_cells T.F_steady_cells.kp T.b_steady_cells .nil passL (pa_cons (pv 12) pa_nil)) (pa_cons (pv 10) pa_nil))))) (pw_or1 (pt_cmpR (op_neD hr.units) (pv 12) (pv 4) (nomark _)))))) (pss_one (ps_ret pe_bl)) pss_nil)
      (pss_one (ps_ret (pe_and (pe_call (ok_law_bad T) (hr.mono (by decide)) rfl T.g_law_bad T.F_law_bad.kp T.b_law_bad .nil pass0 (pa_cons pe_int pa_nil)) (pe_one (pe_call (ok_law_bad T) (hr.mono (by decide)) rfl T.g_law_bad T.F_law_bad.kp T.b_law_bad .nil pass0 (pa_cons pe_int pa_nil)))))))))))))))), ?_⟩
  try simp only [tSeq, tAsg, tVar, tC, tOp, rI0, rI, tUn, rU, tIfS, tTest, tRet, tRetN, tDrop, tCB, tCons, tNil, tLst, tLstI, tTup, gName, tB, tAnd, tOr, tNot, tAndV, tOrV, tNotV, tIf, tNext, tBreak, tCont, gSub, tCall, tCallN, tAug, ipI, tBML, tBML0, isL_IL, isL_lst, L2.start, List.map_cons, List.map_nil, List.length_cons, List.length_nil, List.cons_append, List.nil_append, List.getElem?_cons_succ, List.getElem?_cons_zero, Option.some.injEq, exists_eq_left', exists_eq_left, exists_and_left, V.int.injEq, V.ref.injEq, V.bl.injEq, V.str.injEq, List.set_cons_zero, List.set_cons_succ, List.cons.injEq, and_true, true_and, Nat.reduceAdd, Nat.reduceSub, List.replicate_succ, List.replicate_zero, rIxI, rIxH, rIxTH, rSetI, rSetH, rCatI, rRepI, rSlI, rAppendI, rExtendI, decide_eq_true_eq, upd_same, IL_inj, HO.lst.injEq, toInts_cons, toInts_nil, Option.map_some, if_true, if_false, Bool.true_eq_false, Bool.false_eq_true, Bool.not_true, Bool.not_false, Bool.not_eq_true', decide_eq_false_iff_not, atI_0, atI_1, atI_2, atI_3, atI_4, Int.reduceToNat, Int.reduceLT, Int.reduceLE, Int.reduceNeg, Int.reducePow, cast_lit, upd_upd, Int.reduceAdd, Int.reduceMul, Int.reduceSub, Nat.reduceLT, Nat.reduceLeDiff, cmul_r, cdiv_r, tSl, tPart, tNoPart, rEq, rNe, scal_nn, scal_ii, scal_bb, scal_ss, scal_is, scal_si, V.ty.injEq, and_assoc, tyH_non, tyH_bl, tyH_int, tyH_str, tyH_ref, tyO_lst, tyO_IL, tyO_tup, itO_lst, itO_tup, itO_IL, rIxD, rLenI, rLenH, rLenTH, rLenQ, rLenB, rListI, rListS, rIntI, rIntB, rSumI, rIsiD, rIsX, tCallS, tMakeS, tMake, tMakeC, tMakeSC, tFld, sFld, HO.ins.injEq, HO.tup.injEq, cxOf_K, nox_K, tr_K, suite_K, rTupleI, rAllB, rAnyB, BL_inj, tChain, wOnly, wAs, wMany, rEqI, rNeI, rMax2, rMin2, rIsN, rIsNotN, rStrIn, rStrNotIn, not_true_eq_false, not_false_eq_true, reduceCtorEq, cl_bool, cl_int, cl_str, cl_list, cl_tuple, isB_NoneType_bool, isB_NoneType_int, isB_NoneType_str, isB_NoneType_list, isB_NoneType_tuple, isB_bool_bool, isB_bool_int, isB_bool_str, isB_bool_list, isB_bool_tuple, isB_int_bool, isB_int_int, isB_int_str, isB_int_list, isB_int_tuple, isB_str_bool, isB_str_int, isB_str_str, isB_str_list, isB_str_tuple, isB_list_bool, isB_list_int, isB_list_str, isB_list_list, isB_list_tuple, isB_tuple_bool, isB_tuple_int, isB_tuple_str, isB_tuple_list, isB_tuple_tuple]
  refine ⟨a, ss, 0, rfl, hS, by omega, fun z0 => ?_⟩
  try simp only [tSeq, tAsg, tVar, tC, tOp, rI0, rI, tUn, rU, tIfS, tTest, tRet, tRetN, tDrop, tCB, tCons, tNil, tLst, tLstI, tTup, gName, tB, tAnd, tOr, tNot, tAndV, tOrV, tNotV, tIf, tNext, tBreak, tCont, gSub, tCall, tCallN, tAug, ipI, tBML, tBML0, isL_IL, isL_lst, L2.start, List.map_cons, List.map_nil, List.length_cons, List.length_nil, List.cons_append, List.nil_append, List.getElem?_cons_succ, List.getElem?_cons_zero, Option.some.injEq, exists_eq_left', exists_eq_left, exists_and_left, V.int.injEq, V.ref.injEq, V.bl.injEq, V.str.injEq, List.set_cons_zero, List.set_cons_succ, List.cons.injEq, and_true, true_and, Nat.reduceAdd, Nat.reduceSub, List.replicate_succ, List.replicate_zero, rIxI, rIxH, rIxTH, rSetI, rSetH, rCatI, rRepI, rSlI, rAppendI, rExtendI, decide_eq_true_eq, upd_same, IL_inj, HO.lst.injEq, toInts_cons, toInts_nil, Option.map_some, if_true, if_false, Bool.true_eq_false, Bool.false_eq_true, Bool.not_true, Bool.not_false, Bool.not_eq_true', decide_eq_false_iff_not, atI_0, atI_1, atI_2, atI_3, atI_4, Int.reduceToNat, Int.reduceLT, Int.reduceLE, Int.reduceNeg, Int.reducePow, cast_lit, upd_upd, Int.reduceAdd, Int.reduceMul, Int.reduceSub, Nat.reduceLT, Nat.reduceLeDiff, cmul_r, cdiv_r, tSl, tPart, tNoPart, rEq, rNe, scal_nn, scal_ii, scal_bb, scal_ss, scal_is, scal_si, V.ty.injEq, and_assoc, tyH_non, tyH_bl, tyH_int, tyH_str, tyH_ref, tyO_lst, tyO_IL, tyO_tup, itO_lst, itO_tup, itO_IL, rIxD, rLenI, rLenH, rLenTH, rLenQ, rLenB, rListI, rListS, rIntI, rIntB, rSumI, rIsiD, rIsX, tCallS, tMakeS, tMake, tMakeC, tMakeSC, tFld, sFld, HO.ins.injEq, HO.tup.injEq, cxOf_K, nox_K, tr_K, suite_K, rTupleI, rAllB, rAnyB, BL_inj, tChain, wOnly, wAs, wMany, rEqI, rNeI, rMax2, rMin2, rIsN, rIsNotN, rStrIn, rStrNotIn, not_true_eq_false, not_false_eq_true, reduceCtorEq, cl_bool, cl_int, cl_str, cl_list, cl_tuple, isB_NoneType_bool, isB_NoneType_int, isB_NoneType_str, isB_NoneType_list, isB_NoneType_tuple, isB_bool_bool, isB_bool_int, isB_bool_str, isB_bool_list, isB_bool_tuple, isB_int_bool, isB_int_int, isB_int_str, isB_int_list, isB_int_tuple, isB_str_bool, isB_str_int, isB_str_str, isB_str_list, isB_str_tuple, isB_list_bool, isB_list_int, isB_list_str, isB_list_list, isB_list_tuple, isB_tuple_bool, isB_tuple_int, isB_tuple_str, isB_tuple_list, isB_tuple_tuple]
  refine ⟨z0, 90, rfl, by omega, by omega, fun r ns H1 s1 nr e1 hl1 hd => ?_⟩
  have g : ∀ k : Nat, k < 90 → 0 ≤ ns.getD k 0 ∧ ns.getD k 0 < 4096 := fun k hk => hd.get (by omega)
  have g0 := g 0 (by omega)
  try simp only [tSeq, tAsg, tVar, tC, tOp, rI0, rI, tUn, rU, tIfS, tTest, tRet, tRetN, tDrop, tCB, tCons, tNil, tLst, tLstI, tTup, gName, tB, tAnd, tOr, tNot, tAndV, tOrV, tNotV, tIf, tNext, tBreak, tCont, gSub, tCall, tCallN, tAug, ipI, tBML, tBML0, isL_IL, isL_lst, L2.start, List.map_cons, List.map_nil, List.length_cons, List.length_nil, List.cons_append, List.nil_append, List.getElem?_cons_succ, List.getElem?_cons_zero, Option.some.injEq, exists_eq_left', exists_eq_left, exists_and_left, V.int.injEq, V.ref.injEq, V.bl.injEq, V.str.injEq, List.set_cons_zero, List.set_cons_succ, List.cons.injEq, and_true, true_and, Nat.reduceAdd, Nat.reduceSub, List.replicate_succ, List.replicate_zero, rIxI, rIxH, rIxTH, rSetI, rSetH, rCatI, rRepI, rSlI, rAppendI, rExtendI, decide_eq_true_eq, upd_same, IL_inj, HO.lst.injEq, toInts_cons, toInts_nil, Option.map_some, if_true, if_false, Bool.true_eq_false, Bool.false_eq_true, Bool.not_true, Bool.not_false, Bool.not_eq_true', decide_eq_false_iff_not, atI_0, atI_1, atI_2, atI_3, atI_4, Int.reduceToNat, Int.reduceLT, Int.reduceLE, Int.reduceNeg, Int.reducePow, cast_lit, upd_upd, Int.reduceAdd, Int.reduceMul, Int.reduceSub, Nat.reduceLT, Nat.reduceLeDiff, cmul_r, cdiv_r, tSl, tPart, tNoPart, rEq, rNe, scal_nn, scal_ii, scal_bb, scal_ss, scal_is, scal_si, V.ty.injEq, and_assoc, tyH_non, tyH_bl, tyH_int, tyH_str, tyH_ref, tyO_lst, tyO_IL, tyO_tup, itO_lst, itO_tup, itO_IL, rIxD, rLenI, rLenH, rLenTH, rLenQ, rLenB, rListI, rListS, rIntI, rIntB, rSumI, rIsiD, rIsX, tCallS, tMakeS, tMake, tMakeC, tMakeSC, tFld, sFld, HO.ins.injEq, HO.tup.injEq, cxOf_K, nox_K, tr_K, suite_K, rTupleI, rAllB, rAnyB, BL_inj, tChain, wOnly, wAs, wMany, rEqI, rNeI, rMax2, rMin2, rIsN, rIsNotN, rStrIn, rStrNotIn, not_true_eq_false, not_false_eq_true, reduceCtorEq, cl_bool, cl_int, cl_str, cl_list, cl_tuple, isB_NoneType_bool, isB_NoneType_int, isB_NoneType_str, isB_NoneType_list, isB_NoneType_tuple, isB_bool_bool, isB_bool_int, isB_bool_str, isB_bool_list, isB_bool_tuple, isB_int_bool, isB_int_int, isB_int_str, isB_int_list, isB_int_tuple, isB_str_bool, isB_str_int, isB_str_str, isB_str_list, isB_str_tuple, isB_list_bool, isB_list_int, isB_list_str, isB_list_list, isB_list_tuple, isB_tuple_bool, isB_tuple_int, isB_tuple_str, isB_tuple_list, isB_tuple_tuple, e1, hl1]
  refine ⟨20, rfl, by omega, by omega, fun D hD => ?_⟩
  refine lc_rangeP (R := Bit) (j := 3) (by omega) hD (fun _ => rfl) ?_ fun bs H2 hbl hbits s2 e2 => ?_
  · intro i H3 Q' hi s3 hq
    have e4 := s3 _ _ e1
    have gi := g (60 + (0 + (i : Int))).toNat (by omega)
    try simp only [tSeq, tAsg, tVar, tC, tOp, rI0, rI, tUn, rU, tIfS, tTest, tRet, tRetN, tDrop, tCB, tCons, tNil, tLst, tLstI, tTup, gName, tB, tAnd, tOr, tNot, tAndV, tOrV, tNotV, tIf, tNext, tBreak, tCont, gSub, tCall, tCallN, tAug, ipI, tBML, tBML0, isL_IL, isL_lst, L2.start, List.map_cons, List.map_nil, List.length_cons, List.length_nil, List.cons_append, List.nil_append, List.getElem?_cons_succ, List.getElem?_cons_zero, Option.some.injEq, exists_eq_left', exists_eq_left, exists_and_left, V.int.injEq, V.ref.injEq, V.bl.injEq, V.str.injEq, List.set_cons_zero, List.set_cons_succ, List.cons.injEq, and_true, true_and, Nat.reduceAdd, Nat.reduceSub, List.replicate_succ, List.replicate_zero, rIxI, rIxH, rIxTH, rSetI, rSetH, rCatI, rRepI, rSlI, rAppendI, rExtendI, decide_eq_true_eq, upd_same, IL_inj, HO.lst.injEq, toInts_cons, toInts_nil, Option.map_some, if_true, if_false, Bool.true_eq_false, Bool.false_eq_true, Bool.not_true, Bool.not_false, Bool.not_eq_true', decide_eq_false_iff_not, atI_0, atI_1, atI_2, atI_3, atI_4, Int.reduceToNat, Int.reduceLT, Int.reduceLE, Int.reduceNeg, Int.reducePow, cast_lit, upd_upd, Int.reduceAdd, Int.reduceMul, Int.reduceSub, Nat.reduceLT, Nat.reduceLeDiff, cmul_r, cdiv_r, tSl, tPart, tNoPart, rEq, rNe, scal_nn, scal_ii, scal_bb, scal_ss, scal_is, scal_si, V.ty.injEq, and_assoc, tyH_non, tyH_bl, tyH_int, tyH_str, tyH_ref, tyO_lst, tyO_IL, tyO_tup, itO_lst, itO_tup, itO_IL, rIxD, rLenI, rLenH, rLenTH, rLenQ, rLenB, rListI, rListS, rIntI, rIntB, rSumI, rIsiD, rIsX, tCallS, tMakeS, tMake, tMakeC, tMakeSC, tFld, sFld, HO.ins.injEq, HO.tup.injEq, cxOf_K, nox_K, tr_K, suite_K, rTupleI, rAllB, rAnyB, BL_inj, tChain, wOnly, wAs, wMany, rEqI, rNeI, rMax2, rMin2, rIsN, rIsNotN, rStrIn, rStrNotIn, not_true_eq_false, not_false_eq_true, reduceCtorEq, cl_bool, cl_int, cl_str, cl_list, cl_tuple, isB_NoneType_bool, isB_NoneType_int, isB_NoneType_str, isB_NoneType_list, isB_NoneType_tuple, isB_bool_bool, isB_bool_int, isB_bool_str, isB_bool_list, isB_bool_tuple, isB_int_bool, isB_int_int, isB_int_str, isB_int_list, isB_int_tuple, isB_str_bool, isB_str_int, isB_str_str, isB_str_list, isB_str_tuple, isB_list_bool, isB_list_int, isB_list_str, isB_list_list, isB_list_tuple, isB_tuple_bool, isB_tuple_int, isB_tuple_str, isB_tuple_list, isB_tuple_tuple, wipe, e4, hl1]
    refine ⟨by omega, by omega, hq _ _ ?_ (Same.refl _)⟩
    unfold Bit
    omega
  have hbl : bs.length = 20 := hbl
  have hb : ∀ k : Nat, Bit (bs.getD k 0) := fun k => by
    rw [List.getD_eq_getElem?_getD]
    cases e : bs[k]? with
    | none => exact .inl rfl
    | some v => exact hbits v (List.mem_of_getElem? e)
  have e1b := s2 _ _ e1
  refine ⟨line_le (by decide), fun p hp => ?_⟩
  obtain ⟨I, hI⟩ : ∃ F : Nat → L2.St → Hp → Prop, F = (fun i σ H' => Same H2 H' ∧ ∃ rs z3 z5 z6 z7, RowsAt H' p rs ∧ rs.length = i ∧ (∀ x ∈ rs, rowOk x) ∧ σ = [some (.ref a), some (.ref r), some (.ref D), z3, some (.ref p), z5, z6, z7, none, none, none, none, none]) := ⟨_, rfl⟩
  refine ⟨_, rfl, r, ns, 0, rfl, rfl, same_new hp _ _ _ e1b, ⟨by decide, by omega⟩, _, _, rfl, rfl, (show (0 : Int) < 5 by decide), _, _, rfl, rfl, _, rfl, by omega, by omega, for_range (lo := 0) (n := (1 + ns.getD 0 0 % 5).toNat) I (by rw [hI]; exact ⟨same_new hp _, [], none, none, none, none, ⟨[], upd_same, rfl, fun i a h => by simp at h⟩, rfl, (fun t h => by cases h), rfl⟩) ?_ ?_⟩
  · intro i σ H' hi h
    rw [hI] at h
    obtain ⟨s3, rs, z3, z5, z6, z7, hR, hlen, hrow, rfl⟩ := h
    have e3 := s3 _ _ e1b
    have e3D := s3 _ _ e2
    have hi5 : i < 5 := by omega
    have gi := g (1 + (0 + (i : Int))).toNat (by omega)
    try simp only [tSeq, tAsg, tVar, tC, tOp, rI0, rI, tUn, rU, tIfS, tTest, tRet, tRetN, tDrop, tCB, tCons, tNil, tLst, tLstI, tTup, gName, tB, tAnd, tOr, tNot, tAndV, tOrV, tNotV, tIf, tNext, tBreak, tCont, gSub, tCall, tCallN, tAug, ipI, tBML, tBML0, isL_IL, isL_lst, L2.start, List.map_cons, List.map_nil, List.length_cons, List.length_nil, List.cons_append, List.nil_append, List.getElem?_cons_succ, List.getElem?_cons_zero, Option.some.injEq, exists_eq_left', exists_eq_left, exists_and_left, V.int.injEq, V.ref.injEq, V.bl.injEq, V.str.injEq, List.set_cons_zero, List.set_cons_succ, List.cons.injEq, and_true, true_and, Nat.reduceAdd, Nat.reduceSub, List.replicate_succ, List.replicate_zero, rIxI, rIxH, rIxTH, rSetI, rSetH, rCatI, rRepI, rSlI, rAppendI, rExtendI, decide_eq_true_eq, upd_same, IL_inj, HO.lst.injEq, toInts_cons, toInts_nil, Option.map_some, if_true, if_false, Bool.true_eq_false, Bool.false_eq_true, Bool.not_true, Bool.not_false, Bool.not_eq_true', decide_eq_false_iff_not, atI_0, atI_1, atI_2, atI_3, atI_4, Int.reduceToNat, Int.reduceLT, Int.reduceLE, Int.reduceNeg, Int.reducePow, cast_lit, upd_upd, Int.reduceAdd, Int.reduceMul, Int.reduceSub, Nat.reduceLT, Nat.reduceLeDiff, cmul_r, cdiv_r, tSl, tPart, tNoPart, rEq, rNe, scal_nn, scal_ii, scal_bb, scal_ss, scal_is, scal_si, V.ty.injEq, and_assoc, tyH_non, tyH_bl, tyH_int, tyH_str, tyH_ref, tyO_lst, tyO_IL, tyO_tup, itO_lst, itO_tup, itO_IL, rIxD, rLenI, rLenH, rLenTH, rLenQ, rLenB, rListI, rListS, rIntI, rIntB, rSumI, rIsiD, rIsX, tCallS, tMakeS, tMake, tMakeC, tMakeSC, tFld, sFld, HO.ins.injEq, HO.tup.injEq, cxOf_K, nox_K, tr_K, suite_K, rTupleI, rAllB, rAnyB, BL_inj, tChain, wOnly, wAs, wMany, rEqI, rNeI, rMax2, rMin2, rIsN, rIsNotN, rStrIn, rStrNotIn, not_true_eq_false, not_false_eq_true, reduceCtorEq, cl_bool, cl_int, cl_str, cl_list, cl_tuple, isB_NoneType_bool, isB_NoneType_int, isB_NoneType_str, isB_NoneType_list, isB_NoneType_tuple, isB_bool_bool, isB_bool_int, isB_bool_str, isB_bool_list, isB_bool_tuple, isB_int_bool, isB_int_int, isB_int_str, isB_int_list, isB_int_tuple, isB_str_bool, isB_str_int, isB_str_str, isB_str_list, isB_str_tuple, isB_list_bool, isB_list_int, isB_list_str, isB_list_list, isB_list_tuple, isB_tuple_bool, isB_tuple_int, isB_tuple_str, isB_tuple_list, isB_tuple_tuple]
    refine ⟨line_le (by decide), fun u hu => ?_⟩
    have su : Same H' (upd H' u (IL [])) := same_new hu _
    obtain ⟨J, hJ⟩ : ∃ F : Nat → L2.St → Hp → Prop, F = (fun i2 σ H'' => Same H' H'' ∧ ∃ row z6 z7, H'' u = some (IL row) ∧ row.length = i2 ∧ (∀ v ∈ row, Bit v) ∧ σ = [some (.ref a), some (.ref r), some (.ref D), some (.int (0 + (i : Int))), some (.ref p), some (.ref u), z6, z7, none, none, none, none, none]) := ⟨_, rfl⟩
    refine ⟨_, rfl, _, rfl, _, _, rfl, rfl, r, ns, _, rfl, rfl, su _ _ e3, ⟨by omega, by omega⟩, _, _, rfl, rfl, (show (0 : Int) < 9 by decide), _, _, rfl, rfl, _, rfl, by omega, by omega, for_range (lo := 0) (n := (12 + ns.getD (1 + (0 + (i : Int))).toNat 0 % 9).toNat) J (by rw [hJ]; exact ⟨su, [], z6, z7, upd_same, rfl, (fun t h => by cases h), rfl⟩) ?_ ?_⟩
    · intro i2 σ H'' hi2 h
      rw [hJ] at h
      obtain ⟨s4, row, y6, y7, e4, hlen2, hbit, rfl⟩ := h
      have e4r := s4 _ _ e3
      have e4D := s4 _ _ e3D
      have cm9 : ∀ x, CMul 9 x := fun x => .inl ⟨by decide, by decide⟩
      try simp only [tSeq, tAsg, tVar, tC, tOp, rI0, rI, tUn, rU, tIfS, tTest, tRet, tRetN, tDrop, tCB, tCons, tNil, tLst, tLstI, tTup, gName, tB, tAnd, tOr, tNot, tAndV, tOrV, tNotV, tIf, tNext, tBreak, tCont, gSub, tCall, tCallN, tAug, ipI, tBML, tBML0, isL_IL, isL_lst, L2.start, List.map_cons, List.map_nil, List.length_cons, List.length_nil, List.cons_append, List.nil_append, List.getElem?_cons_succ, List.getElem?_cons_zero, Option.some.injEq, exists_eq_left', exists_eq_left, exists_and_left, V.int.injEq, V.ref.injEq, V.bl.injEq, V.str.injEq, List.set_cons_zero, List.set_cons_succ, List.cons.injEq, and_true, true_and, Nat.reduceAdd, Nat.reduceSub, List.replicate_succ, List.replicate_zero, rIxI, rIxH, rIxTH, rSetI, rSetH, rCatI, rRepI, rSlI, rAppendI, rExtendI, decide_eq_true_eq, upd_same, IL_inj, HO.lst.injEq, toInts_cons, toInts_nil, Option.map_some, if_true, if_false, Bool.true_eq_false, Bool.false_eq_true, Bool.not_true, Bool.not_false, Bool.not_eq_true', decide_eq_false_iff_not, atI_0, atI_1, atI_2, atI_3, atI_4, Int.reduceToNat, Int.reduceLT, Int.reduceLE, Int.reduceNeg, Int.reducePow, cast_lit, upd_upd, Int.reduceAdd, Int.reduceMul, Int.reduceSub, Nat.reduceLT, Nat.reduceLeDiff, cmul_r, cdiv_r, tSl, tPart, tNoPart, rEq, rNe, scal_nn, scal_ii, scal_bb, scal_ss, scal_is, scal_si, V.ty.injEq, and_assoc, tyH_non, tyH_bl, tyH_int, tyH_str, tyH_ref, tyO_lst, tyO_IL, tyO_tup, itO_lst, itO_tup, itO_IL, rIxD, rLenI, rLenH, rLenTH, rLenQ, rLenB, rListI, rListS, rIntI, rIntB, rSumI, rIsiD, rIsX, tCallS, tMakeS, tMake, tMakeC, tMakeSC, tFld, sFld, HO.ins.injEq, HO.tup.injEq, cxOf_K, nox_K, tr_K, suite_K, rTupleI, rAllB, rAnyB, BL_inj, tChain, wOnly, wAs, wMany, rEqI, rNeI, rMax2, rMin2, rIsN, rIsNotN, rStrIn, rStrNotIn, not_true_eq_false, not_false_eq_true, reduceCtorEq, cl_bool, cl_int, cl_str, cl_list, cl_tuple, isB_NoneType_bool, isB_NoneType_int, isB_NoneType_str, isB_NoneType_list, isB_NoneType_tuple, isB_bool_bool, isB_bool_int, isB_bool_str, isB_bool_list, isB_bool_tuple, isB_int_bool, isB_int_int, isB_int_str, isB_int_list, isB_int_tuple, isB_str_bool, isB_str_int, isB_str_str, isB_str_list, isB_str_tuple, isB_list_bool, isB_list_int, isB_list_str, isB_list_list, isB_list_tuple, isB_tuple_bool, isB_tuple_int, isB_tuple_str, isB_tuple_list, isB_tuple_tuple, e4r, e4D, cm9, hl1, hbl]
      generalize ns.getD (10 + (9 * (0 + (i : Int)) + (0 + (i2 : Int))) % 50).toNat 0 = dd
      have hb2 := hb (0 + (i2 : Int)).toNat
      generalize bs.getD (0 + (i2 : Int)).toNat 0 = bv at hb2
      refine ⟨by omega, by omega, by rw [e4]; rfl, by omega, by omega, by omega, by omega, line_le (by decide), fun w9 hw9 => ⟨by split <;> decide, by split <;> decide, ?_⟩⟩
      have e5 := same_new hw9 (IL [bv, 1 - bv]) _ _ e4
      try simp only [tSeq, tAsg, tVar, tC, tOp, rI0, rI, tUn, rU, tIfS, tTest, tRet, tRetN, tDrop, tCB, tCons, tNil, tLst, tLstI, tTup, gName, tB, tAnd, tOr, tNot, tAndV, tOrV, tNotV, tIf, tNext, tBreak, tCont, gSub, tCall, tCallN, tAug, ipI, tBML, tBML0, isL_IL, isL_lst, L2.start, List.map_cons, List.map_nil, List.length_cons, List.length_nil, List.cons_append, List.nil_append, List.getElem?_cons_succ, List.getElem?_cons_zero, Option.some.injEq, exists_eq_left', exists_eq_left, exists_and_left, V.int.injEq, V.ref.injEq, V.bl.injEq, V.str.injEq, List.set_cons_zero, List.set_cons_succ, List.cons.injEq, and_true, true_and, Nat.reduceAdd, Nat.reduceSub, List.replicate_succ, List.replicate_zero, rIxI, rIxH, rIxTH, rSetI, rSetH, rCatI, rRepI, rSlI, rAppendI, rExtendI, decide_eq_true_eq, upd_same, IL_inj, HO.lst.injEq, toInts_cons, toInts_nil, Option.map_some, if_true, if_false, Bool.true_eq_false, Bool.false_eq_true, Bool.not_true, Bool.not_false, Bool.not_eq_true', decide_eq_false_iff_not, atI_0, atI_1, atI_2, atI_3, atI_4, Int.reduceToNat, Int.reduceLT, Int.reduceLE, Int.reduceNeg, Int.reducePow, cast_lit, upd_upd, Int.reduceAdd, Int.reduceMul, Int.reduceSub, Nat.reduceLT, Nat.reduceLeDiff, cmul_r, cdiv_r, tSl, tPart, tNoPart, rEq, rNe, scal_nn, scal_ii, scal_bb, scal_ss, scal_is, scal_si, V.ty.injEq, and_assoc, tyH_non, tyH_bl, tyH_int, tyH_str, tyH_ref, tyO_lst, tyO_IL, tyO_tup, itO_lst, itO_tup, itO_IL, rIxD, rLenI, rLenH, rLenTH, rLenQ, rLenB, rListI, rListS, rIntI, rIntB, rSumI, rIsiD, rIsX, tCallS, tMakeS, tMake, tMakeC, tMakeSC, tFld, sFld, HO.ins.injEq, HO.tup.injEq, cxOf_K, nox_K, tr_K, suite_K, rTupleI, rAllB, rAnyB, BL_inj, tChain, wOnly, wAs, wMany, rEqI, rNeI, rMax2, rMin2, rIsN, rIsNotN, rStrIn, rStrNotIn, not_true_eq_false, not_false_eq_true, reduceCtorEq, cl_bool, cl_int, cl_str, cl_list, cl_tuple, isB_NoneType_bool, isB_NoneType_int, isB_NoneType_str, isB_NoneType_list, isB_NoneType_tuple, isB_bool_bool, isB_bool_int, isB_bool_str, isB_bool_list, isB_bool_tuple, isB_int_bool, isB_int_int, isB_int_str, isB_int_list, isB_int_tuple, isB_str_bool, isB_str_int, isB_str_str, isB_str_list, isB_str_tuple, isB_list_bool, isB_list_int, isB_list_str, isB_list_list, isB_list_tuple, isB_tuple_bool, isB_tuple_int, isB_tuple_str, isB_tuple_list, isB_tuple_tuple, e5]
      refine ⟨line_lt (by omega), ?_⟩
      rw [hJ]
      refine ⟨fun b o hb' => ?_, row ++ [_], _, _, upd_same, ?_, ?_, rfl⟩
      · rw [upd_ne (ne_of_none hb' hu)]
        exact same_new hw9 _ _ _ (s4 _ _ hb')
      · rw [List.length_append, hlen2]
        rfl
      · intro t ht
        rcases List.mem_append.mp ht with ht | ht
        · exact hbit t ht
        · rw [List.mem_singleton.mp ht]
          exact pick2 (P := Bit) hb2 (by unfold Bit at hb2 ⊢; omega) (by split <;> decide)
    · intro σ H'' h
      rw [hJ] at h
      obtain ⟨s4, row, y6, y7, e4, hlen2, hbit, rfl⟩ := h
      have hpn := hR
      obtain ⟨as0, hp0, _⟩ := hpn
      have nup : u ≠ p := (ne_of_none hp0 hu).symm
      obtain ⟨as, hp4, hl4, ha4⟩ := hR.same s4
      try simp only [tSeq, tAsg, tVar, tC, tOp, rI0, rI, tUn, rU, tIfS, tTest, tRet, tRetN, tDrop, tCB, tCons, tNil, tLst, tLstI, tTup, gName, tB, tAnd, tOr, tNot, tAndV, tOrV, tNotV, tIf, tNext, tBreak, tCont, gSub, tCall, tCallN, tAug, ipI, tBML, tBML0, isL_IL, isL_lst, L2.start, List.map_cons, List.map_nil, List.length_cons, List.length_nil, List.cons_append, List.nil_append, List.getElem?_cons_succ, List.getElem?_cons_zero, Option.some.injEq, exists_eq_left', exists_eq_left, exists_and_left, V.int.injEq, V.ref.injEq, V.bl.injEq, V.str.injEq, List.set_cons_zero, List.set_cons_succ, List.cons.injEq, and_true, true_and, Nat.reduceAdd, Nat.reduceSub, List.replicate_succ, List.replicate_zero, rIxI, rIxH, rIxTH, rSetI, rSetH, rCatI, rRepI, rSlI, rAppendI, rExtendI, decide_eq_true_eq, upd_same, IL_inj, HO.lst.injEq, toInts_cons, toInts_nil, Option.map_some, if_true, if_false, Bool.true_eq_false, Bool.false_eq_true, Bool.not_true, Bool.not_false, Bool.not_eq_true', decide_eq_false_iff_not, atI_0, atI_1, atI_2, atI_3, atI_4, Int.reduceToNat, Int.reduceLT, Int.reduceLE, Int.reduceNeg, Int.reducePow, cast_lit, upd_upd, Int.reduceAdd, Int.reduceMul, Int.reduceSub, Nat.reduceLT, Nat.reduceLeDiff, cmul_r, cdiv_r, tSl, tPart, tNoPart, rEq, rNe, scal_nn, scal_ii, scal_bb, scal_ss, scal_is, scal_si, V.ty.injEq, and_assoc, tyH_non, tyH_bl, tyH_int, tyH_str, tyH_ref, tyO_lst, tyO_IL, tyO_tup, itO_lst, itO_tup, itO_IL, rIxD, rLenI, rLenH, rLenTH, rLenQ, rLenB, rListI, rListS, rIntI, rIntB, rSumI, rIsiD, rIsX, tCallS, tMakeS, tMake, tMakeC, tMakeSC, tFld, sFld, HO.ins.injEq, HO.tup.injEq, cxOf_K, nox_K, tr_K, suite_K, rTupleI, rAllB, rAnyB, BL_inj, tChain, wOnly, wAs, wMany, rEqI, rNeI, rMax2, rMin2, rIsN, rIsNotN, rStrIn, rStrNotIn, not_true_eq_false, not_false_eq_true, reduceCtorEq, cl_bool, cl_int, cl_str, cl_list, cl_tuple, isB_NoneType_bool, isB_NoneType_int, isB_NoneType_str, isB_NoneType_list, isB_NoneType_tuple, isB_bool_bool, isB_bool_int, isB_bool_str, isB_bool_list, isB_bool_tuple, isB_int_bool, isB_int_int, isB_int_str, isB_int_list, isB_int_tuple, isB_str_bool, isB_str_int, isB_str_str, isB_str_list, isB_str_tuple, isB_list_bool, isB_list_int, isB_list_str, isB_list_list, isB_list_tuple, isB_tuple_bool, isB_tuple_int, isB_tuple_str, isB_tuple_list, isB_tuple_tuple]
      refine ⟨by rw [hp4]; rfl, p, _, _, rfl, rfl, hp4, by rw [List.length_map]; exact line_lt (by omega), ?_⟩
      have hP := RowsAt.push hp4 hl4 ha4 e4 nup
      rw [hI]
      refine ⟨fun b o hb' => ?_, rs ++ [row], _, _, _, _, hP, ?_, fun x hx => ?_, rfl⟩
      · rw [upd_ne (ne_of_none hb' hp)]
        exact s4 _ _ (s3 _ _ hb')
      · rw [List.length_append, hlen]
        rfl
      · rcases List.mem_append.mp hx with hx | hx
        · exact hrow x hx
        · rw [List.mem_singleton.mp hx]
          exact ⟨by omega, by omega, hbit⟩
  intro σ H3 h
  rw [hI] at h
  obtain ⟨s3, rs, z3, z5, z6, z7, hR, hlen, hrow, rfl⟩ := h
  clear hI I
  have h0 : 0 < rs.length := by omega
  have h5 : rs.length ≤ 5 := by omega
  have hok : ∀ j, j < rs.length → rowOk (rs.getD j []) := fun j hj => by
    rw [List.getD_eq_getElem?_getD, List.getElem?_eq_getElem hj]
    exact hrow _ (List.getElem_mem hj)
  have hle20 : ∀ j, (rs.getD j []).length ≤ 1000 := fun j => by
    by_cases hj : j < rs.length
    · have := (hok j hj).2.1
      omega
    · rw [List.getD_eq_getElem?_getD, List.getElem?_eq_none (by omega)]
      simp
  have hR' := hR
  obtain ⟨as, hp4, hl4, ha4⟩ := hR'
  try simp only [tSeq, tAsg, tVar, tC, tOp, rI0, rI, tUn, rU, tIfS, tTest, tRet, tRetN, tDrop, tCB, tCons, tNil, tLst, tLstI, tTup, gName, tB, tAnd, tOr, tNot, tAndV, tOrV, tNotV, tIf, tNext, tBreak, tCont, gSub, tCall, tCallN, tAug, ipI, tBML, tBML0, isL_IL, isL_lst, L2.start, List.map_cons, List.map_nil, List.length_cons, List.length_nil, List.cons_append, List.nil_append, List.getElem?_cons_succ, List.getElem?_cons_zero, Option.some.injEq, exists_eq_left', exists_eq_left, exists_and_left, V.int.injEq, V.ref.injEq, V.bl.injEq, V.str.injEq, List.set_cons_zero, List.set_cons_succ, List.cons.injEq, and_true, true_and, Nat.reduceAdd, Nat.reduceSub, List.replicate_succ, List.replicate_zero, rIxI, rIxH, rIxTH, rSetI, rSetH, rCatI, rRepI, rSlI, rAppendI, rExtendI, decide_eq_true_eq, upd_same, IL_inj, HO.lst.injEq, toInts_cons, toInts_nil, Option.map_some, if_true, if_false, Bool.true_eq_false, Bool.false_eq_true, Bool.not_true, Bool.not_false, Bool.not_eq_true', decide_eq_false_iff_not, atI_0, atI_1, atI_2, atI_3, atI_4, Int.reduceToNat, Int.reduceLT, Int.reduceLE, Int.reduceNeg, Int.reducePow, cast_lit, upd_upd, Int.reduceAdd, Int.reduceMul, Int.reduceSub, Nat.reduceLT, Nat.reduceLeDiff, cmul_r, cdiv_r, tSl, tPart, tNoPart, rEq, rNe, scal_nn, scal_ii, scal_bb, scal_ss, scal_is, scal_si, V.ty.injEq, and_assoc, tyH_non, tyH_bl, tyH_int, tyH_str, tyH_ref, tyO_lst, tyO_IL, tyO_tup, itO_lst, itO_tup, itO_IL, rIxD, rLenI, rLenH, rLenTH, rLenQ, rLenB, rListI, rListS, rIntI, rIntB, rSumI, rIsiD, rIsX, tCallS, tMakeS, tMake, tMakeC, tMakeSC, tFld, sFld, HO.ins.injEq, HO.tup.injEq, cxOf_K, nox_K, tr_K, suite_K, rTupleI, rAllB, rAnyB, BL_inj, tChain, wOnly, wAs, wMany, rEqI, rNeI, rMax2, rMin2, rIsN, rIsNotN, rStrIn, rStrNotIn, not_true_eq_false, not_false_eq_true, reduceCtorEq, cl_bool, cl_int, cl_str, cl_list, cl_tuple, isB_NoneType_bool, isB_NoneType_int, isB_NoneType_str, isB_NoneType_list, isB_NoneType_tuple, isB_bool_bool, isB_bool_int, isB_bool_str, isB_bool_list, isB_bool_tuple, isB_int_bool, isB_int_int, isB_int_str, isB_int_list, isB_int_tuple, isB_str_bool, isB_str_int, isB_str_str, isB_str_list, isB_str_tuple, isB_list_bool, isB_list_int, isB_list_str, isB_list_list, isB_list_tuple, isB_tuple_bool, isB_tuple_int, isB_tuple_str, isB_tuple_list, isB_tuple_tuple]
  refine ⟨_, rfl, p, rfl, ⟨_, .of hp4⟩, fun D2 hD2 => ?_⟩
  refine lc_listI (K := K) (a := p) (xs := as.map V.ref) (f := fun i => ((rs.getD i []).length : Int)) (by rw [List.length_map]; omega) (.of hp4) hD2 (fun _ => rfl) ?_ fun H4 s4 e4 => ?_
  · intro i x H3 Q' hx s1 hq
    obtain ⟨a, hai, rfl⟩ := refs_at hx
    have e3 := s1 _ _ (ha4 i a hai)
    try simp only [tSeq, tAsg, tVar, tC, tOp, rI0, rI, tUn, rU, tIfS, tTest, tRet, tRetN, tDrop, tCB, tCons, tNil, tLst, tLstI, tTup, gName, tB, tAnd, tOr, tNot, tAndV, tOrV, tNotV, tIf, tNext, tBreak, tCont, gSub, tCall, tCallN, tAug, ipI, tBML, tBML0, isL_IL, isL_lst, L2.start, List.map_cons, List.map_nil, List.length_cons, List.length_nil, List.cons_append, List.nil_append, List.getElem?_cons_succ, List.getElem?_cons_zero, Option.some.injEq, exists_eq_left', exists_eq_left, exists_and_left, V.int.injEq, V.ref.injEq, V.bl.injEq, V.str.injEq, List.set_cons_zero, List.set_cons_succ, List.cons.injEq, and_true, true_and, Nat.reduceAdd, Nat.reduceSub, List.replicate_succ, List.replicate_zero, rIxI, rIxH, rIxTH, rSetI, rSetH, rCatI, rRepI, rSlI, rAppendI, rExtendI, decide_eq_true_eq, upd_same, IL_inj, HO.lst.injEq, toInts_cons, toInts_nil, Option.map_some, if_true, if_false, Bool.true_eq_false, Bool.false_eq_true, Bool.not_true, Bool.not_false, Bool.not_eq_true', decide_eq_false_iff_not, atI_0, atI_1, atI_2, atI_3, atI_4, Int.reduceToNat, Int.reduceLT, Int.reduceLE, Int.reduceNeg, Int.reducePow, cast_lit, upd_upd, Int.reduceAdd, Int.reduceMul, Int.reduceSub, Nat.reduceLT, Nat.reduceLeDiff, cmul_r, cdiv_r, tSl, tPart, tNoPart, rEq, rNe, scal_nn, scal_ii, scal_bb, scal_ss, scal_is, scal_si, V.ty.injEq, and_assoc, tyH_non, tyH_bl, tyH_int, tyH_str, tyH_ref, tyO_lst, tyO_IL, tyO_tup, itO_lst, itO_tup, itO_IL, rIxD, rLenI, rLenH, rLenTH, rLenQ, rLenB, rListI, rListS, rIntI, rIntB, rSumI, rIsiD, rIsX, tCallS, tMakeS, tMake, tMakeC, tMakeSC, tFld, sFld, HO.ins.injEq, HO.tup.injEq, cxOf_K, nox_K, tr_K, suite_K, rTupleI, rAllB, rAnyB, BL_inj, tChain, wOnly, wAs, wMany, rEqI, rNeI, rMax2, rMin2, rIsN, rIsNotN, rStrIn, rStrNotIn, not_true_eq_false, not_false_eq_true, reduceCtorEq, cl_bool, cl_int, cl_str, cl_list, cl_tuple, isB_NoneType_bool, isB_NoneType_int, isB_NoneType_str, isB_NoneType_list, isB_NoneType_tuple, isB_bool_bool, isB_bool_int, isB_bool_str, isB_bool_list, isB_bool_tuple, isB_int_bool, isB_int_int, isB_int_str, isB_int_list, isB_int_tuple, isB_str_bool, isB_str_int, isB_str_str, isB_str_list, isB_str_tuple, isB_list_bool, isB_list_int, isB_list_str, isB_list_list, isB_list_tuple, isB_tuple_bool, isB_tuple_int, isB_tuple_str, isB_tuple_list, isB_tuple_tuple, wipe, e3]
    exact hq _ (Same.refl _)
  rw [List.length_map, hl4] at e4
  refine ⟨D2, _, rfl, .of e4, by rw [List.length_map, List.length_range]; omega, fun m hm hle => ?_⟩
  have hL : Least m rs := by
    refine ⟨?_, fun i hi => hle _ (List.mem_map.mpr ⟨i, List.mem_range.mpr hi, rfl⟩)⟩
    obtain ⟨i, hi, rfl⟩ := List.mem_map.mp hm
    exact ⟨i, List.mem_range.mp hi, rfl⟩
  clear hm hle
  have m0 : 12 ≤ m ∧ m ≤ 20 := by
    obtain ⟨⟨i, hi, e⟩, _⟩ := hL
    have := hok i hi
    exact ⟨by have := this.1; omega, by have := this.2.1; omega⟩
  have hR4 := hR.same s4
  try simp only [tSeq, tAsg, tVar, tC, tOp, rI0, rI, tUn, rU, tIfS, tTest, tRet, tRetN, tDrop, tCB, tCons, tNil, tLst, tLstI, tTup, gName, tB, tAnd, tOr, tNot, tAndV, tOrV, tNotV, tIf, tNext, tBreak, tCont, gSub, tCall, tCallN, tAug, ipI, tBML, tBML0, isL_IL, isL_lst, L2.start, List.map_cons, List.map_nil, List.length_cons, List.length_nil, List.cons_append, List.nil_append, List.getElem?_cons_succ, List.getElem?_cons_zero, Option.some.injEq, exists_eq_left', exists_eq_left, exists_and_left, V.int.injEq, V.ref.injEq, V.bl.injEq, V.str.injEq, List.set_cons_zero, List.set_cons_succ, List.cons.injEq, and_true, true_and, Nat.reduceAdd, Nat.reduceSub, List.replicate_succ, List.replicate_zero, rIxI, rIxH, rIxTH, rSetI, rSetH, rCatI, rRepI, rSlI, rAppendI, rExtendI, decide_eq_true_eq, upd_same, IL_inj, HO.lst.injEq, toInts_cons, toInts_nil, Option.map_some, if_true, if_false, Bool.true_eq_false, Bool.false_eq_true, Bool.not_true, Bool.not_false, Bool.not_eq_true', decide_eq_false_iff_not, atI_0, atI_1, atI_2, atI_3, atI_4, Int.reduceToNat, Int.reduceLT, Int.reduceLE, Int.reduceNeg, Int.reducePow, cast_lit, upd_upd, Int.reduceAdd, Int.reduceMul, Int.reduceSub, Nat.reduceLT, Nat.reduceLeDiff, cmul_r, cdiv_r, tSl, tPart, tNoPart, rEq, rNe, scal_nn, scal_ii, scal_bb, scal_ss, scal_is, scal_si, V.ty.injEq, and_assoc, tyH_non, tyH_bl, tyH_int, tyH_str, tyH_ref, tyO_lst, tyO_IL, tyO_tup, itO_lst, itO_tup, itO_IL, rIxD, rLenI, rLenH, rLenTH, rLenQ, rLenB, rListI, rListS, rIntI, rIntB, rSumI, rIsiD, rIsX, tCallS, tMakeS, tMake, tMakeC, tMakeSC, tFld, sFld, HO.ins.injEq, HO.tup.injEq, cxOf_K, nox_K, tr_K, suite_K, rTupleI, rAllB, rAnyB, BL_inj, tChain, wOnly, wAs, wMany, rEqI, rNeI, rMax2, rMin2, rIsN, rIsNotN, rStrIn, rStrNotIn, not_true_eq_false, not_false_eq_true, reduceCtorEq, cl_bool, cl_int, cl_str, cl_list, cl_tuple, isB_NoneType_bool, isB_NoneType_int, isB_NoneType_str, isB_NoneType_list, isB_NoneType_tuple, isB_bool_bool, isB_bool_int, isB_bool_str, isB_bool_list, isB_bool_tuple, isB_int_bool, isB_int_int, isB_int_str, isB_int_list, isB_int_tuple, isB_str_bool, isB_str_int, isB_str_str, isB_str_list, isB_str_tuple, isB_list_bool, isB_list_int, isB_list_str, isB_list_list, isB_list_tuple, isB_tuple_bool, isB_tuple_int, isB_tuple_str, isB_tuple_list, isB_tuple_tuple]
  refine ⟨line_le (by decide), fun w9 h9 => ⟨line_le (by decide), fun w10 h10 => ?_⟩⟩
  have n910 : w9 ≠ w10 := ne_of_none upd_same h10
  have h10' : H4 w10 = none := same_none (same_new h9 _) h10
  obtain ⟨I, hI⟩ : ∃ F : Nat → L2.St → Hp → Prop, F = (fun i σ H' => Same H4 H' ∧ H' w9 = some (IL (weakZ rs ((i : Nat) : Int))) ∧ H' w10 = some (IL (steadyZ rs ((i : Nat) : Int))) ∧ ∃ y5 y6 y7 y11, σ = [some (.ref a), some (.ref r), some (.ref D), z3, some (.ref p), y5, y6, y7, some (.int m), some (.ref w9), some (.ref w10), y11, none]) := ⟨_, rfl⟩
  refine ⟨_, rfl, m, rfl, by omega, by omega, for_range (lo := 0) (n := m.toNat) I (by rw [hI]; exact ⟨(same_new h9 _).trans (same_new h10 _), by rw [upd_ne n910, upd_same]; rfl, upd_same, z5, z6, z7, none, rfl⟩) ?_ ?_⟩
  · intro i σ H' hi h
    rw [hI] at h
    obtain ⟨s6, e9, e10, y5, y6, y7, y11, rfl⟩ := h
    obtain ⟨as6, hp6, hl6, ha6⟩ := hR4.same s6
    have ei : (0 : Int) + (i : Int) = (i : Int) := by omega
    try simp only [tSeq, tAsg, tVar, tC, tOp, rI0, rI, tUn, rU, tIfS, tTest, tRet, tRetN, tDrop, tCB, tCons, tNil, tLst, tLstI, tTup, gName, tB, tAnd, tOr, tNot, tAndV, tOrV, tNotV, tIf, tNext, tBreak, tCont, gSub, tCall, tCallN, tAug, ipI, tBML, tBML0, isL_IL, isL_lst, L2.start, List.map_cons, List.map_nil, List.length_cons, List.length_nil, List.cons_append, List.nil_append, List.getElem?_cons_succ, List.getElem?_cons_zero, Option.some.injEq, exists_eq_left', exists_eq_left, exists_and_left, V.int.injEq, V.ref.injEq, V.bl.injEq, V.str.injEq, List.set_cons_zero, List.set_cons_succ, List.cons.injEq, and_true, true_and, Nat.reduceAdd, Nat.reduceSub, List.replicate_succ, List.replicate_zero, rIxI, rIxH, rIxTH, rSetI, rSetH, rCatI, rRepI, rSlI, rAppendI, rExtendI, decide_eq_true_eq, upd_same, IL_inj, HO.lst.injEq, toInts_cons, toInts_nil, Option.map_some, if_true, if_false, Bool.true_eq_false, Bool.false_eq_true, Bool.not_true, Bool.not_false, Bool.not_eq_true', decide_eq_false_iff_not, atI_0, atI_1, atI_2, atI_3, atI_4, Int.reduceToNat, Int.reduceLT, Int.reduceLE, Int.reduceNeg, Int.reducePow, cast_lit, upd_upd, Int.reduceAdd, Int.reduceMul, Int.reduceSub, Nat.reduceLT, Nat.reduceLeDiff, cmul_r, cdiv_r, tSl, tPart, tNoPart, rEq, rNe, scal_nn, scal_ii, scal_bb, scal_ss, scal_is, scal_si, V.ty.injEq, and_assoc, tyH_non, tyH_bl, tyH_int, tyH_str, tyH_ref, tyO_lst, tyO_IL, tyO_tup, itO_lst, itO_tup, itO_IL, rIxD, rLenI, rLenH, rLenTH, rLenQ, rLenB, rListI, rListS, rIntI, rIntB, rSumI, rIsiD, rIsX, tCallS, tMakeS, tMake, tMakeC, tMakeSC, tFld, sFld, HO.ins.injEq, HO.tup.injEq, cxOf_K, nox_K, tr_K, suite_K, rTupleI, rAllB, rAnyB, BL_inj, tChain, wOnly, wAs, wMany, rEqI, rNeI, rMax2, rMin2, rIsN, rIsNotN, rStrIn, rStrNotIn, not_true_eq_false, not_false_eq_true, reduceCtorEq, cl_bool, cl_int, cl_str, cl_list, cl_tuple, isB_NoneType_bool, isB_NoneType_int, isB_NoneType_str, isB_NoneType_list, isB_NoneType_tuple, isB_bool_bool, isB_bool_int, isB_bool_str, isB_bool_list, isB_bool_tuple, isB_int_bool, isB_int_int, isB_int_str, isB_int_list, isB_int_tuple, isB_str_bool, isB_str_int, isB_str_str, isB_str_list, isB_str_tuple, isB_list_bool, isB_list_int, isB_list_str, isB_list_list, isB_list_tuple, isB_tuple_bool, isB_tuple_int, isB_tuple_str, isB_tuple_list, isB_tuple_tuple, ei]
    refine ⟨_, rfl, p, rfl, ⟨_, .of hp6⟩, fun D3 hD3 => ?_⟩
    refine lc_listVF (K := K) (a := p) (xs := as6.map V.ref) (f := fun j => (as6.map V.ref).getD j .non) (kp := fun j => decide ((rs.getD j []).getD i 0 = 1)) (by rw [List.length_map]; omega) (.of hp6) hD3 (fun _ => rfl) ?_ ?_ fun H7 s7 e7 => ?_
    · intro j x H8 Q2 hx s8 hq
      obtain ⟨a, haj, rfl⟩ := refs_at hx
      have hlt : j < as6.length := (List.getElem?_eq_some_iff.mp haj).1
      have b1 := hL.2 j (by omega)
      have e8 := s8 _ _ (ha6 j a haj)
      try simp only [tSeq, tAsg, tVar, tC, tOp, rI0, rI, tUn, rU, tIfS, tTest, tRet, tRetN, tDrop, tCB, tCons, tNil, tLst, tLstI, tTup, gName, tB, tAnd, tOr, tNot, tAndV, tOrV, tNotV, tIf, tNext, tBreak, tCont, gSub, tCall, tCallN, tAug, ipI, tBML, tBML0, isL_IL, isL_lst, L2.start, List.map_cons, List.map_nil, List.length_cons, List.length_nil, List.cons_append, List.nil_append, List.getElem?_cons_succ, List.getElem?_cons_zero, Option.some.injEq, exists_eq_left', exists_eq_left, exists_and_left, V.int.injEq, V.ref.injEq, V.bl.injEq, V.str.injEq, List.set_cons_zero, List.set_cons_succ, List.cons.injEq, and_true, true_and, Nat.reduceAdd, Nat.reduceSub, List.replicate_succ, List.replicate_zero, rIxI, rIxH, rIxTH, rSetI, rSetH, rCatI, rRepI, rSlI, rAppendI, rExtendI, decide_eq_true_eq, upd_same, IL_inj, HO.lst.injEq, toInts_cons, toInts_nil, Option.map_some, if_true, if_false, Bool.true_eq_false, Bool.false_eq_true, Bool.not_true, Bool.not_false, Bool.not_eq_true', decide_eq_false_iff_not, atI_0, atI_1, atI_2, atI_3, atI_4, Int.reduceToNat, Int.reduceLT, Int.reduceLE, Int.reduceNeg, Int.reducePow, cast_lit, upd_upd, Int.reduceAdd, Int.reduceMul, Int.reduceSub, Nat.reduceLT, Nat.reduceLeDiff, cmul_r, cdiv_r, tSl, tPart, tNoPart, rEq, rNe, scal_nn, scal_ii, scal_bb, scal_ss, scal_is, scal_si, V.ty.injEq, and_assoc, tyH_non, tyH_bl, tyH_int, tyH_str, tyH_ref, tyO_lst, tyO_IL, tyO_tup, itO_lst, itO_tup, itO_IL, rIxD, rLenI, rLenH, rLenTH, rLenQ, rLenB, rListI, rListS, rIntI, rIntB, rSumI, rIsiD, rIsX, tCallS, tMakeS, tMake, tMakeC, tMakeSC, tFld, sFld, HO.ins.injEq, HO.tup.injEq, cxOf_K, nox_K, tr_K, suite_K, rTupleI, rAllB, rAnyB, BL_inj, tChain, wOnly, wAs, wMany, rEqI, rNeI, rMax2, rMin2, rIsN, rIsNotN, rStrIn, rStrNotIn, not_true_eq_false, not_false_eq_true, reduceCtorEq, cl_bool, cl_int, cl_str, cl_list, cl_tuple, isB_NoneType_bool, isB_NoneType_int, isB_NoneType_str, isB_NoneType_list, isB_NoneType_tuple, isB_bool_bool, isB_bool_int, isB_bool_str, isB_bool_list, isB_bool_tuple, isB_int_bool, isB_int_int, isB_int_str, isB_int_list, isB_int_tuple, isB_str_bool, isB_str_int, isB_str_str, isB_str_list, isB_str_tuple, isB_list_bool, isB_list_int, isB_list_str, isB_list_list, isB_list_tuple, isB_tuple_bool, isB_tuple_int, isB_tuple_str, isB_tuple_list, isB_tuple_tuple, wipe, e8]
      exact ⟨by omega, by omega, hq H8 (Same.refl _)⟩
    · intro j x H8 Q2 hx _ s8 hq
      have q := hq H8 (Same.refl _)
      simp only [List.getD_eq_getElem?_getD, hx] at q
      try simp only [tSeq, tAsg, tVar, tC, tOp, rI0, rI, tUn, rU, tIfS, tTest, tRet, tRetN, tDrop, tCB, tCons, tNil, tLst, tLstI, tTup, gName, tB, tAnd, tOr, tNot, tAndV, tOrV, tNotV, tIf, tNext, tBreak, tCont, gSub, tCall, tCallN, tAug, ipI, tBML, tBML0, isL_IL, isL_lst, L2.start, List.map_cons, List.map_nil, List.length_cons, List.length_nil, List.cons_append, List.nil_append, List.getElem?_cons_succ, List.getElem?_cons_zero, Option.some.injEq, exists_eq_left', exists_eq_left, exists_and_left, V.int.injEq, V.ref.injEq, V.bl.injEq, V.str.injEq, List.set_cons_zero, List.set_cons_succ, List.cons.injEq, and_true, true_and, Nat.reduceAdd, Nat.reduceSub, List.replicate_succ, List.replicate_zero, rIxI, rIxH, rIxTH, rSetI, rSetH, rCatI, rRepI, rSlI, rAppendI, rExtendI, decide_eq_true_eq, upd_same, IL_inj, HO.lst.injEq, toInts_cons, toInts_nil, Option.map_some, if_true, if_false, Bool.true_eq_false, Bool.false_eq_true, Bool.not_true, Bool.not_false, Bool.not_eq_true', decide_eq_false_iff_not, atI_0, atI_1, atI_2, atI_3, atI_4, Int.reduceToNat, Int.reduceLT, Int.reduceLE, Int.reduceNeg, Int.reducePow, cast_lit, upd_upd, Int.reduceAdd, Int.reduceMul, Int.reduceSub, Nat.reduceLT, Nat.reduceLeDiff, cmul_r, cdiv_r, tSl, tPart, tNoPart, rEq, rNe, scal_nn, scal_ii, scal_bb, scal_ss, scal_is, scal_si, V.ty.injEq, and_assoc, tyH_non, tyH_bl, tyH_int, tyH_str, tyH_ref, tyO_lst, tyO_IL, tyO_tup, itO_lst, itO_tup, itO_IL, rIxD, rLenI, rLenH, rLenTH, rLenQ, rLenB, rListI, rListS, rIntI, rIntB, rSumI, rIsiD, rIsX, tCallS, tMakeS, tMake, tMakeC, tMakeSC, tFld, sFld, HO.ins.injEq, HO.tup.injEq, cxOf_K, nox_K, tr_K, suite_K, rTupleI, rAllB, rAnyB, BL_inj, tChain, wOnly, wAs, wMany, rEqI, rNeI, rMax2, rMin2, rIsN, rIsNotN, rStrIn, rStrNotIn, not_true_eq_false, not_false_eq_true, reduceCtorEq, cl_bool, cl_int, cl_str, cl_list, cl_tuple, isB_NoneType_bool, isB_NoneType_int, isB_NoneType_str, isB_NoneType_list, isB_NoneType_tuple, isB_bool_bool, isB_bool_int, isB_bool_str, isB_bool_list, isB_bool_tuple, isB_int_bool, isB_int_int, isB_int_str, isB_int_list, isB_int_tuple, isB_str_bool, isB_str_int, isB_str_str, isB_str_list, isB_str_tuple, isB_list_bool, isB_list_int, isB_list_str, isB_list_list, isB_list_tuple, isB_tuple_bool, isB_tuple_int, isB_tuple_str, isB_tuple_list, isB_tuple_tuple, wipe]
      exact q
    · rw [List.length_map, hl6] at e7
      have hp7 := s7 _ _ hp6
      have e9' := s7 _ _ e9
      have e10' := s7 _ _ e10
      have eo : ((((List.range rs.length).filter fun j => decide ((rs.getD j []).getD i 0 = 1)).map fun j => (as6.map V.ref).getD j V.non).length : Int) = (onesN rs i : Int) := by rw [List.length_map]; rfl
      have el : ((as6.map V.ref).length : Int) = (rs.length : Int) := by rw [List.length_map, hl6]
      have cm : CMul 2 (onesN rs i : Int) := .inl ⟨by decide, by decide⟩
      try simp only [tSeq, tAsg, tVar, tC, tOp, rI0, rI, tUn, rU, tIfS, tTest, tRet, tRetN, tDrop, tCB, tCons, tNil, tLst, tLstI, tTup, gName, tB, tAnd, tOr, tNot, tAndV, tOrV, tNotV, tIf, tNext, tBreak, tCont, gSub, tCall, tCallN, tAug, ipI, tBML, tBML0, isL_IL, isL_lst, L2.start, List.map_cons, List.map_nil, List.length_cons, List.length_nil, List.cons_append, List.nil_append, List.getElem?_cons_succ, List.getElem?_cons_zero, Option.some.injEq, exists_eq_left', exists_eq_left, exists_and_left, V.int.injEq, V.ref.injEq, V.bl.injEq, V.str.injEq, List.set_cons_zero, List.set_cons_succ, List.cons.injEq, and_true, true_and, Nat.reduceAdd, Nat.reduceSub, List.replicate_succ, List.replicate_zero, rIxI, rIxH, rIxTH, rSetI, rSetH, rCatI, rRepI, rSlI, rAppendI, rExtendI, decide_eq_true_eq, upd_same, IL_inj, HO.lst.injEq, toInts_cons, toInts_nil, Option.map_some, if_true, if_false, Bool.true_eq_false, Bool.false_eq_true, Bool.not_true, Bool.not_false, Bool.not_eq_true', decide_eq_false_iff_not, atI_0, atI_1, atI_2, atI_3, atI_4, Int.reduceToNat, Int.reduceLT, Int.reduceLE, Int.reduceNeg, Int.reducePow, cast_lit, upd_upd, Int.reduceAdd, Int.reduceMul, Int.reduceSub, Nat.reduceLT, Nat.reduceLeDiff, cmul_r, cdiv_r, tSl, tPart, tNoPart, rEq, rNe, scal_nn, scal_ii, scal_bb, scal_ss, scal_is, scal_si, V.ty.injEq, and_assoc, tyH_non, tyH_bl, tyH_int, tyH_str, tyH_ref, tyO_lst, tyO_IL, tyO_tup, itO_lst, itO_tup, itO_IL, rIxD, rLenI, rLenH, rLenTH, rLenQ, rLenB, rListI, rListS, rIntI, rIntB, rSumI, rIsiD, rIsX, tCallS, tMakeS, tMake, tMakeC, tMakeSC, tFld, sFld, HO.ins.injEq, HO.tup.injEq, cxOf_K, nox_K, tr_K, suite_K, rTupleI, rAllB, rAnyB, BL_inj, tChain, wOnly, wAs, wMany, rEqI, rNeI, rMax2, rMin2, rIsN, rIsNotN, rStrIn, rStrNotIn, not_true_eq_false, not_false_eq_true, reduceCtorEq, cl_bool, cl_int, cl_str, cl_list, cl_tuple, isB_NoneType_bool, isB_NoneType_int, isB_NoneType_str, isB_NoneType_list, isB_NoneType_tuple, isB_bool_bool, isB_bool_int, isB_bool_str, isB_bool_list, isB_bool_tuple, isB_int_bool, isB_int_int, isB_int_str, isB_int_list, isB_int_tuple, isB_str_bool, isB_str_int, isB_str_str, isB_str_list, isB_str_tuple, isB_list_bool, isB_list_int, isB_list_str, isB_list_list, isB_list_tuple, isB_tuple_bool, isB_tuple_int, isB_tuple_str, isB_tuple_list, isB_tuple_tuple, e7, hp7, e9', eo, el, cm]
      have hbits : ∀ j, j < rs.length → Bit ((rs.getD j []).getD i 0) := fun j hj => (hok j hj).bit i
      have hones := ones_eq hbits
      have hweak := weak_eq h0 hbits
      have wl := weakZ_len rs i
      have sl := steadyZ_len rs i
      have wm := weakZ_more (rs := rs) (i := i)
      have sm := steadyZ_more (rs := rs) (i := i)
      rw [hones] at sm
      have n9p : p ≠ w9 := ne_of_none (s4 _ _ hp4) h9
      have fin : isWeak rs i = false → (isL (H7 w10) = true ∧ ∃ x, H7 w10 = some (IL x) ∧ x.length < sizeLine ∧ I (i + 1) [some (.ref a), some (.ref r), some (.ref D), z3, some (.ref p), y5, some (.int (i : Int)), y7, some (.int m), some (.ref w9), some (.ref w10), some (.int (onesN rs i : Int)), none] (upd H7 w10 (IL (x ++ [if (rs.length : Int) < 2 * (onesN rs i : Int) then 1 else 0])))) := fun hf => by
        refine ⟨by rw [e10']; rfl, _, e10', line_lt (by omega), ?_⟩
        rw [hI]
        refine ⟨fun b o hb' => ?_, ?_, ?_, _, _, _, _, rfl⟩
        · rw [upd_ne (ne_of_none hb' h10')]
          exact s7 _ _ (s6 _ _ hb')
        · rw [upd_ne n910, e9', wm, hf, if_neg (by decide), List.append_nil]
        · rw [upd_same, sm]
      by_cases c1 : (0 : Int) < (onesN rs i : Int)
      · rw [if_pos c1]
        by_cases c2 : (onesN rs i : Int) < (rs.length : Int)
        · rw [if_pos c2]
          have ht : isWeak rs i = true := hweak.mpr ⟨by omega, by omega⟩
          refine ⟨line_lt (by omega), by rw [upd_ne n910.symm, e10']; rfl, _, (by rw [upd_ne n9p]; exact hp7), _, (by rw [upd_ne n910.symm]; exact e10'), line_lt (by omega), ?_⟩
          rw [hI, el]
          refine ⟨fun b o hb' => ?_, ?_, ?_, _, _, _, _, rfl⟩
          · rw [upd_ne (ne_of_none hb' h10'), upd_ne (ne_of_none hb' h9)]
            exact s7 _ _ (s6 _ _ hb')
          · rw [upd_ne n910, upd_same, wm, ht, if_pos rfl]
          · rw [upd_same, sm]
        · rw [if_neg c2]
          refine fin ?_
          cases hh : isWeak rs i with
          | false => rfl
          | true => exact absurd (hweak.mp hh).2 (by omega)
      · rw [if_neg c1]
        refine fin ?_
        cases hh : isWeak rs i with
        | false => rfl
        | true => exact absurd (hweak.mp hh).1 (by omega)
  intro σ H5 h
  rw [hI] at h
  obtain ⟨s6, e9, e10, y5, y6, y7, y11, rfl⟩ := h
  clear hI I
  have hR5 := hR4.same s6
  have hR5' := hR5
  obtain ⟨as5, hp5, hl5', ha5⟩ := hR5'
  try simp only [tSeq, tAsg, tVar, tC, tOp, rI0, rI, tUn, rU, tIfS, tTest, tRet, tRetN, tDrop, tCB, tCons, tNil, tLst, tLstI, tTup, gName, tB, tAnd, tOr, tNot, tAndV, tOrV, tNotV, tIf, tNext, tBreak, tCont, gSub, tCall, tCallN, tAug, ipI, tBML, tBML0, isL_IL, isL_lst, L2.start, List.map_cons, List.map_nil, List.length_cons, List.length_nil, List.cons_append, List.nil_append, List.getElem?_cons_succ, List.getElem?_cons_zero, Option.some.injEq, exists_eq_left', exists_eq_left, exists_and_left, V.int.injEq, V.ref.injEq, V.bl.injEq, V.str.injEq, List.set_cons_zero, List.set_cons_succ, List.cons.injEq, and_true, true_and, Nat.reduceAdd, Nat.reduceSub, List.replicate_succ, List.replicate_zero, rIxI, rIxH, rIxTH, rSetI, rSetH, rCatI, rRepI, rSlI, rAppendI, rExtendI, decide_eq_true_eq, upd_same, IL_inj, HO.lst.injEq, toInts_cons, toInts_nil, Option.map_some, if_true, if_false, Bool.true_eq_false, Bool.false_eq_true, Bool.not_true, Bool.not_false, Bool.not_eq_true', decide_eq_false_iff_not, atI_0, atI_1, atI_2, atI_3, atI_4, Int.reduceToNat, Int.reduceLT, Int.reduceLE, Int.reduceNeg, Int.reducePow, cast_lit, upd_upd, Int.reduceAdd, Int.reduceMul, Int.reduceSub, Nat.reduceLT, Nat.reduceLeDiff, cmul_r, cdiv_r, tSl, tPart, tNoPart, rEq, rNe, scal_nn, scal_ii, scal_bb, scal_ss, scal_is, scal_si, V.ty.injEq, and_assoc, tyH_non, tyH_bl, tyH_int, tyH_str, tyH_ref, tyO_lst, tyO_IL, tyO_tup, itO_lst, itO_tup, itO_IL, rIxD, rLenI, rLenH, rLenTH, rLenQ, rLenB, rListI, rListS, rIntI, rIntB, rSumI, rIsiD, rIsX, tCallS, tMakeS, tMake, tMakeC, tMakeSC, tFld, sFld, HO.ins.injEq, HO.tup.injEq, cxOf_K, nox_K, tr_K, suite_K, rTupleI, rAllB, rAnyB, BL_inj, tChain, wOnly, wAs, wMany, rEqI, rNeI, rMax2, rMin2, rIsN, rIsNotN, rStrIn, rStrNotIn, not_true_eq_false, not_false_eq_true, reduceCtorEq, cl_bool, cl_int, cl_str, cl_list, cl_tuple, isB_NoneType_bool, isB_NoneType_int, isB_NoneType_str, isB_NoneType_list, isB_NoneType_tuple, isB_bool_bool, isB_bool_int, isB_bool_str, isB_bool_list, isB_bool_tuple, isB_int_bool, isB_int_int, isB_int_str, isB_int_list, isB_int_tuple, isB_str_bool, isB_str_int, isB_str_str, isB_str_list, isB_str_tuple, isB_list_bool, isB_list_int, isB_list_str, isB_list_list, isB_list_tuple, isB_tuple_bool, isB_tuple_int, isB_tuple_str, isB_tuple_list, isB_tuple_tuple]
  have e9 : H5 w9 = some (IL (weakZ rs m)) := e9
  have e10 : H5 w10 = some (IL (steadyZ rs m)) := e10
  refine ⟨_, rfl, p, rfl, ⟨_, .of hp5⟩, fun D4 hD4 => ?_⟩
  refine lc_list (K := K) (a := p) (xs := as5.map V.ref) (fun i H' => Same H5 H' ∧ RowsAt H' D4 (rs.take i)) ⟨same_new hD4 _, [], upd_same, by simp, fun j b h => by simp at h⟩ (fun i H' _ h => Same.seq h.1 (.of hp5)) ?_ ?_
  · intro i x H' hx h
    obtain ⟨s7, cs, e7, hl7, hcs⟩ := h
    refine ⟨rfl, ?_⟩
    simp only [tYes, if_true]
    obtain ⟨a, hai, rfl⟩ := refs_at hx
    have hlt : i < as5.length := (List.getElem?_eq_some_iff.mp hai).1
    have e8 := s7 _ _ (ha5 i a hai)
    try simp only [tSeq, tAsg, tVar, tC, tOp, rI0, rI, tUn, rU, tIfS, tTest, tRet, tRetN, tDrop, tCB, tCons, tNil, tLst, tLstI, tTup, gName, tB, tAnd, tOr, tNot, tAndV, tOrV, tNotV, tIf, tNext, tBreak, tCont, gSub, tCall, tCallN, tAug, ipI, tBML, tBML0, isL_IL, isL_lst, L2.start, List.map_cons, List.map_nil, List.length_cons, List.length_nil, List.cons_append, List.nil_append, List.getElem?_cons_succ, List.getElem?_cons_zero, Option.some.injEq, exists_eq_left', exists_eq_left, exists_and_left, V.int.injEq, V.ref.injEq, V.bl.injEq, V.str.injEq, List.set_cons_zero, List.set_cons_succ, List.cons.injEq, and_true, true_and, Nat.reduceAdd, Nat.reduceSub, List.replicate_succ, List.replicate_zero, rIxI, rIxH, rIxTH, rSetI, rSetH, rCatI, rRepI, rSlI, rAppendI, rExtendI, decide_eq_true_eq, upd_same, IL_inj, HO.lst.injEq, toInts_cons, toInts_nil, Option.map_some, if_true, if_false, Bool.true_eq_false, Bool.false_eq_true, Bool.not_true, Bool.not_false, Bool.not_eq_true', decide_eq_false_iff_not, atI_0, atI_1, atI_2, atI_3, atI_4, Int.reduceToNat, Int.reduceLT, Int.reduceLE, Int.reduceNeg, Int.reducePow, cast_lit, upd_upd, Int.reduceAdd, Int.reduceMul, Int.reduceSub, Nat.reduceLT, Nat.reduceLeDiff, cmul_r, cdiv_r, tSl, tPart, tNoPart, rEq, rNe, scal_nn, scal_ii, scal_bb, scal_ss, scal_is, scal_si, V.ty.injEq, and_assoc, tyH_non, tyH_bl, tyH_int, tyH_str, tyH_ref, tyO_lst, tyO_IL, tyO_tup, itO_lst, itO_tup, itO_IL, rIxD, rLenI, rLenH, rLenTH, rLenQ, rLenB, rListI, rListS, rIntI, rIntB, rSumI, rIsiD, rIsX, tCallS, tMakeS, tMake, tMakeC, tMakeSC, tFld, sFld, HO.ins.injEq, HO.tup.injEq, cxOf_K, nox_K, tr_K, suite_K, rTupleI, rAllB, rAnyB, BL_inj, tChain, wOnly, wAs, wMany, rEqI, rNeI, rMax2, rMin2, rIsN, rIsNotN, rStrIn, rStrNotIn, not_true_eq_false, not_false_eq_true, reduceCtorEq, cl_bool, cl_int, cl_str, cl_list, cl_tuple, isB_NoneType_bool, isB_NoneType_int, isB_NoneType_str, isB_NoneType_list, isB_NoneType_tuple, isB_bool_bool, isB_bool_int, isB_bool_str, isB_bool_list, isB_bool_tuple, isB_int_bool, isB_int_int, isB_int_str, isB_int_list, isB_int_tuple, isB_str_bool, isB_str_int, isB_str_str, isB_str_list, isB_str_tuple, isB_list_bool, isB_list_int, isB_list_str, isB_list_list, isB_list_tuple, isB_tuple_bool, isB_tuple_int, isB_tuple_str, isB_tuple_list, isB_tuple_tuple, wipe, e8]
    intro u hu
    have nu : D4 ≠ u := ne_of_none e7 hu
    have hP := RowsAt.push (H := upd H' u (IL (rs.getD i []))) (p := D4) (u := u) (as := cs) (rs := rs.take i) (r := rs.getD i []) (by rw [upd_ne nu]; exact e7) hl7 (fun j b e => same_new hu _ _ _ (hcs j b e)) upd_same nu.symm
    have et : rs.take (i + 1) = rs.take i ++ [rs.getD i []] := by
      rw [List.take_succ, List.getD_eq_getElem?_getD, List.getElem?_eq_getElem (by omega)]
      rfl
    have hcl : cs.length ≤ 5 := by
      rw [hl7, List.length_take]
      omega
    refine ⟨_, by rw [upd_ne nu]; exact e7, by rw [List.length_map]; exact line_lt (by omega), fun b o hb' => ?_, ?_⟩
    · rw [upd_ne (ne_of_none hb' hD4)]
      exact same_new hu _ _ _ (s7 _ _ hb')
    · rw [et]
      exact hP
  · intro H6 h
    obtain ⟨s7, hR6⟩ := h
    rw [List.length_map, hl5', List.take_length] at hR6
    refine ⟨D4, rs, rfl, hR6, by omega, hle20, fun _ u m' H7 s8 hm' hu => ?_, fun hz => absurd hz (by omega)⟩
    cases least_one hm' hL
    refine ⟨u, w9, _, rfl, hu, (s7.trans s8) _ _ e9, ?_⟩
    try simp only [tSeq, tAsg, tVar, tC, tOp, rI0, rI, tUn, rU, tIfS, tTest, tRet, tRetN, tDrop, tCB, tCons, tNil, tLst, tLstI, tTup, gName, tB, tAnd, tOr, tNot, tAndV, tOrV, tNotV, tIf, tNext, tBreak, tCont, gSub, tCall, tCallN, tAug, ipI, tBML, tBML0, isL_IL, isL_lst, L2.start, List.map_cons, List.map_nil, List.length_cons, List.length_nil, List.cons_append, List.nil_append, List.getElem?_cons_succ, List.getElem?_cons_zero, Option.some.injEq, exists_eq_left', exists_eq_left, exists_and_left, V.int.injEq, V.ref.injEq, V.bl.injEq, V.str.injEq, List.set_cons_zero, List.set_cons_succ, List.cons.injEq, and_true, true_and, Nat.reduceAdd, Nat.reduceSub, List.replicate_succ, List.replicate_zero, rIxI, rIxH, rIxTH, rSetI, rSetH, rCatI, rRepI, rSlI, rAppendI, rExtendI, decide_eq_true_eq, upd_same, IL_inj, HO.lst.injEq, toInts_cons, toInts_nil, Option.map_some, if_true, if_false, Bool.true_eq_false, Bool.false_eq_true, Bool.not_true, Bool.not_false, Bool.not_eq_true', decide_eq_false_iff_not, atI_0, atI_1, atI_2, atI_3, atI_4, Int.reduceToNat, Int.reduceLT, Int.reduceLE, Int.reduceNeg, Int.reducePow, cast_lit, upd_upd, Int.reduceAdd, Int.reduceMul, Int.reduceSub, Nat.reduceLT, Nat.reduceLeDiff, cmul_r, cdiv_r, tSl, tPart, tNoPart, rEq, rNe, scal_nn, scal_ii, scal_bb, scal_ss, scal_is, scal_si, V.ty.injEq, and_assoc, tyH_non, tyH_bl, tyH_int, tyH_str, tyH_ref, tyO_lst, tyO_IL, tyO_tup, itO_lst, itO_tup, itO_IL, rIxD, rLenI, rLenH, rLenTH, rLenQ, rLenB, rListI, rListS, rIntI, rIntB, rSumI, rIsiD, rIsX, tCallS, tMakeS, tMake, tMakeC, tMakeSC, tFld, sFld, HO.ins.injEq, HO.tup.injEq, cxOf_K, nox_K, tr_K, suite_K, rTupleI, rAllB, rAnyB, BL_inj, tChain, wOnly, wAs, wMany, rEqI, rNeI, rMax2, rMin2, rIsN, rIsNotN, rStrIn, rStrNotIn, not_true_eq_false, not_false_eq_true, reduceCtorEq, cl_bool, cl_int, cl_str, cl_list, cl_tuple, isB_NoneType_bool, isB_NoneType_int, isB_NoneType_str, isB_NoneType_list, isB_NoneType_tuple, isB_bool_bool, isB_bool_int, isB_bool_str, isB_bool_list, isB_bool_tuple, isB_int_bool, isB_int_int, isB_int_str, isB_int_list, isB_int_tuple, isB_str_bool, isB_str_int, isB_str_str, isB_str_list, isB_str_tuple, isB_list_bool, isB_list_int, isB_list_str, isB_list_list, isB_list_tuple, isB_tuple_bool, isB_tuple_int, isB_tuple_str, isB_tuple_list, isB_tuple_tuple]
    refine ⟨D4, rs, rfl, hR6.same s8, by omega, hle20, fun _ u2 m2 H8 s9 hm2 hu2 => ?_, fun hz => absurd hz (by omega)⟩
    cases least_one hm2 hL
    refine ⟨u2, w10, _, rfl, hu2, (s7.trans (s8.trans s9)) _ _ e10, ?_⟩
    try simp only [tSeq, tAsg, tVar, tC, tOp, rI0, rI, tUn, rU, tIfS, tTest, tRet, tRetN, tDrop, tCB, tCons, tNil, tLst, tLstI, tTup, gName, tB, tAnd, tOr, tNot, tAndV, tOrV, tNotV, tIf, tNext, tBreak, tCont, gSub, tCall, tCallN, tAug, ipI, tBML, tBML0, isL_IL, isL_lst, L2.start, List.map_cons, List.map_nil, List.length_cons, List.length_nil, List.cons_append, List.nil_append, List.getElem?_cons_succ, List.getElem?_cons_zero, Option.some.injEq, exists_eq_left', exists_eq_left, exists_and_left, V.int.injEq, V.ref.injEq, V.bl.injEq, V.str.injEq, List.set_cons_zero, List.set_cons_succ, List.cons.injEq, and_true, true_and, Nat.reduceAdd, Nat.reduceSub, List.replicate_succ, List.replicate_zero, rIxI, rIxH, rIxTH, rSetI, rSetH, rCatI, rRepI, rSlI, rAppendI, rExtendI, decide_eq_true_eq, upd_same, IL_inj, HO.lst.injEq, toInts_cons, toInts_nil, Option.map_some, if_true, if_false, Bool.true_eq_false, Bool.false_eq_true, Bool.not_true, Bool.not_false, Bool.not_eq_true', decide_eq_false_iff_not, atI_0, atI_1, atI_2, atI_3, atI_4, Int.reduceToNat, Int.reduceLT, Int.reduceLE, Int.reduceNeg, Int.reducePow, cast_lit, upd_upd, Int.reduceAdd, Int.reduceMul, Int.reduceSub, Nat.reduceLT, Nat.reduceLeDiff, cmul_r, cdiv_r, tSl, tPart, tNoPart, rEq, rNe, scal_nn, scal_ii, scal_bb, scal_ss, scal_is, scal_si, V.ty.injEq, and_assoc, tyH_non, tyH_bl, tyH_int, tyH_str, tyH_ref, tyO_lst, tyO_IL, tyO_tup, itO_lst, itO_tup, itO_IL, rIxD, rLenI, rLenH, rLenTH, rLenQ, rLenB, rListI, rListS, rIntI, rIntB, rSumI, rIsiD, rIsX, tCallS, tMakeS, tMake, tMakeC, tMakeSC, tFld, sFld, HO.ins.injEq, HO.tup.injEq, cxOf_K, nox_K, tr_K, suite_K, rTupleI, rAllB, rAnyB, BL_inj, tChain, wOnly, wAs, wMany, rEqI, rNeI, rMax2, rMin2, rIsN, rIsNotN, rStrIn, rStrNotIn, not_true_eq_false, not_false_eq_true, reduceCtorEq, cl_bool, cl_int, cl_str, cl_list, cl_tuple, isB_NoneType_bool, isB_NoneType_int, isB_NoneType_str, isB_NoneType_list, isB_NoneType_tuple, isB_bool_bool, isB_bool_int, isB_bool_str, isB_bool_list, isB_bool_tuple, isB_int_bool, isB_int_int, isB_int_str, isB_int_list, isB_int_tuple, isB_str_bool, isB_str_int, isB_str_str, isB_str_list, isB_str_tuple, isB_list_bool, isB_list_int, isB_list_str, isB_list_list, isB_list_tuple, isB_tuple_bool, isB_tuple_int, isB_tuple_str, isB_tuple_list, isB_tuple_tuple]
    refine ⟨_, _, (hR6.same (s8.trans s9)).dp, (hR5.same (s7.trans (s8.trans s9))).dp, shaped_LL rs, shaped_LL rs, ?_⟩
    rw [PyData.eqv, eqv_LL]
    try simp only [tSeq, tAsg, tVar, tC, tOp, rI0, rI, tUn, rU, tIfS, tTest, tRet, tRetN, tDrop, tCB, tCons, tNil, tLst, tLstI, tTup, gName, tB, tAnd, tOr, tNot, tAndV, tOrV, tNotV, tIf, tNext, tBreak, tCont, gSub, tCall, tCallN, tAug, ipI, tBML, tBML0, isL_IL, isL_lst, L2.start, List.map_cons, List.map_nil, List.length_cons, List.length_nil, List.cons_append, List.nil_append, List.getElem?_cons_succ, List.getElem?_cons_zero, Option.some.injEq, exists_eq_left', exists_eq_left, exists_and_left, V.int.injEq, V.ref.injEq, V.bl.injEq, V.str.injEq, List.set_cons_zero, List.set_cons_succ, List.cons.injEq, and_true, true_and, Nat.reduceAdd, Nat.reduceSub, List.replicate_succ, List.replicate_zero, rIxI, rIxH, rIxTH, rSetI, rSetH, rCatI, rRepI, rSlI, rAppendI, rExtendI, decide_eq_true_eq, upd_same, IL_inj, HO.lst.injEq, toInts_cons, toInts_nil, Option.map_some, if_true, if_false, Bool.true_eq_false, Bool.false_eq_true, Bool.not_true, Bool.not_false, Bool.not_eq_true', decide_eq_false_iff_not, atI_0, atI_1, atI_2, atI_3, atI_4, Int.reduceToNat, Int.reduceLT, Int.reduceLE, Int.reduceNeg, Int.reducePow, cast_lit, upd_upd, Int.reduceAdd, Int.reduceMul, Int.reduceSub, Nat.reduceLT, Nat.reduceLeDiff, cmul_r, cdiv_r, tSl, tPart, tNoPart, rEq, rNe, scal_nn, scal_ii, scal_bb, scal_ss, scal_is, scal_si, V.ty.injEq, and_assoc, tyH_non, tyH_bl, tyH_int, tyH_str, tyH_ref, tyO_lst, tyO_IL, tyO_tup, itO_lst, itO_tup, itO_IL, rIxD, rLenI, rLenH, rLenTH, rLenQ, rLenB, rListI, rListS, rIntI, rIntB, rSumI, rIsiD, rIsX, tCallS, tMakeS, tMake, tMakeC, tMakeSC, tFld, sFld, HO.ins.injEq, HO.tup.injEq, cxOf_K, nox_K, tr_K, suite_K, rTupleI, rAllB, rAnyB, BL_inj, tChain, wOnly, wAs, wMany, rEqI, rNeI, rMax2, rMin2, rIsN, rIsNotN, rStrIn, rStrNotIn, not_true_eq_false, not_false_eq_true, reduceCtorEq, cl_bool, cl_int, cl_str, cl_list, cl_tuple, isB_NoneType_bool, isB_NoneType_int, isB_NoneType_str, isB_NoneType_list, isB_NoneType_tuple, isB_bool_bool, isB_bool_int, isB_bool_str, isB_bool_list, isB_bool_tuple, isB_int_bool, isB_int_int, isB_int_str, isB_int_list, isB_int_tuple, isB_str_bool, isB_str_int, isB_str_str, isB_str_list, isB_str_tuple, isB_list_bool, isB_list_int, isB_list_str, isB_list_list, isB_list_tuple, isB_tuple_bool, isB_tuple_int, isB_tuple_str, isB_tuple_list, isB_tuple_tuple]
    refine ⟨0, rfl, fun H9 _ => ?_⟩
    try simp only [tSeq, tAsg, tVar, tC, tOp, rI0, rI, tUn, rU, tIfS, tTest, tRet, tRetN, tDrop, tCB, tCons, tNil, tLst, tLstI, tTup, gName, tB, tAnd, tOr, tNot, tAndV, tOrV, tNotV, tIf, tNext, tBreak, tCont, gSub, tCall, tCallN, tAug, ipI, tBML, tBML0, isL_IL, isL_lst, L2.start, List.map_cons, List.map_nil, List.length_cons, List.length_nil, List.cons_append, List.nil_append, List.getElem?_cons_succ, List.getElem?_cons_zero, Option.some.injEq, exists_eq_left', exists_eq_left, exists_and_left, V.int.injEq, V.ref.injEq, V.bl.injEq, V.str.injEq, List.set_cons_zero, List.set_cons_succ, List.cons.injEq, and_true, true_and, Nat.reduceAdd, Nat.reduceSub, List.replicate_succ, List.replicate_zero, rIxI, rIxH, rIxTH, rSetI, rSetH, rCatI, rRepI, rSlI, rAppendI, rExtendI, decide_eq_true_eq, upd_same, IL_inj, HO.lst.injEq, toInts_cons, toInts_nil, Option.map_some, if_true, if_false, Bool.true_eq_false, Bool.false_eq_true, Bool.not_true, Bool.not_false, Bool.not_eq_true', decide_eq_false_iff_not, atI_0, atI_1, atI_2, atI_3, atI_4, Int.reduceToNat, Int.reduceLT, Int.reduceLE, Int.reduceNeg, Int.reducePow, cast_lit, upd_upd, Int.reduceAdd, Int.reduceMul, Int.reduceSub, Nat.reduceLT, Nat.reduceLeDiff, cmul_r, cdiv_r, tSl, tPart, tNoPart, rEq, rNe, scal_nn, scal_ii, scal_bb, scal_ss, scal_is, scal_si, V.ty.injEq, and_assoc, tyH_non, tyH_bl, tyH_int, tyH_str, tyH_ref, tyO_lst, tyO_IL, tyO_tup, itO_lst, itO_tup, itO_IL, rIxD, rLenI, rLenH, rLenTH, rLenQ, rLenB, rListI, rListS, rIntI, rIntB, rSumI, rIsiD, rIsX, tCallS, tMakeS, tMake, tMakeC, tMakeSC, tFld, sFld, HO.ins.injEq, HO.tup.injEq, cxOf_K, nox_K, tr_K, suite_K, rTupleI, rAllB, rAnyB, BL_inj, tChain, wOnly, wAs, wMany, rEqI, rNeI, rMax2, rMin2, rIsN, rIsNotN, rStrIn, rStrNotIn, not_true_eq_false, not_false_eq_true, reduceCtorEq, cl_bool, cl_int, cl_str, cl_list, cl_tuple, isB_NoneType_bool, isB_NoneType_int, isB_NoneType_str, isB_NoneType_list, isB_NoneType_tuple, isB_bool_bool, isB_bool_int, isB_bool_str, isB_bool_list, isB_bool_tuple, isB_int_bool, isB_int_int, isB_int_str, isB_int_list, isB_int_tuple, isB_str_bool, isB_str_int, isB_str_str, isB_str_list, isB_str_tuple, isB_list_bool, isB_list_int, isB_list_str, isB_list_list, isB_list_tuple, isB_tuple_bool, isB_tuple_int, isB_tuple_str, isB_tuple_list, isB_tuple_tuple]
    exact ⟨1, rfl, fun H10 _ => k H10⟩
end
theorem all_mk {l : PySem.W.OpenLaw} {w : World} {K : PySem.W.Frag} {h : Heap} {mg : Str → Option Value} {fa f1 f2 f3 f4 f5 f6 f7 f8 f9 f10 C_DifferentLengths : Addr} (X : K.In h) (G : h.Ns mainGlobals mg) (hfa : mg "law" = some (.ref fa))
    {od1 an1 od2 an2 od3 an3 od4 an4 od5 an5 od6 an6 od7 an7 od8 an8 od9 an9 od10 an10 : Option Addr} {sl1 sl2 sl3 sl4 sl5 sl6 sl7 sl8 sl9 sl10 : Array (Option Value)} {oc1 kV1 dc1 pm1 cd1 ct1 oc2 kV2 dc2 pm2 cd2 ct2 oc3 kV3 dc3 pm3 cd3 ct3 oc4 kV4 dc4 pm4 cd4 ct4 oc5 kV5 dc5 pm5 cd5 ct5 oc6 kV6 dc6 pm6 cd6 ct6 oc7 kV7 dc7 pm7 cd7 ct7 oc8 kV8 dc8 pm8 cd8 ct8 oc9 kV9 dc9 pm9 cd9 ct9 oc10 kV10 dc10 pm10 cd10 ct10 : Value}
    (a1 : PySem.W.nsIn K mainGlobals "shortest_length" = some (some (.ref f1))) (l1 : K.lookup f1 = some ⟨oc1, od1, .func (PySem.W.fnOf "shortest_length" "shortest_length" (defArgs s_shortest_length) (defBody s_shortest_length) (defScope s_shortest_length) .none kV1 dc1 pm1 an1 cd1 ct1), sl1⟩) (c1 : PySem.W.codeIn K cd1 "shortest_length" = true) (k1 : PySem.W.keepIn K (.ref f1) = true)
    (a2 : PySem.W.nsIn K mainGlobals "weak_places" = some (some (.ref f2))) (l2 : K.lookup f2 = some ⟨oc2, od2, .func (PySem.W.fnOf "weak_places" "weak_places" (defArgs s_weak_places) (defBody s_weak_places) (defScope s_weak_places) .none kV2 dc2 pm2 an2 cd2 ct2), sl2⟩) (c2 : PySem.W.codeIn K cd2 "weak_places" = true) (k2 : PySem.W.keepIn K (.ref f2) = true)
    (a3 : PySem.W.nsIn K mainGlobals "steady_cells" = some (some (.ref f3))) (l3 : K.lookup f3 = some ⟨oc3, od3, .func (PySem.W.fnOf "steady_cells" "steady_cells" (defArgs s_steady_cells) (defBody s_steady_cells) (defScope s_steady_cells) .none kV3 dc3 pm3 an3 cd3 ct3), sl3⟩) (c3 : PySem.W.codeIn K cd3 "steady_cells" = true) (k3 : PySem.W.keepIn K (.ref f3) = true)
    (a4 : PySem.W.nsIn K mainGlobals "_law_cell" = some (some (.ref f4))) (l4 : K.lookup f4 = some ⟨oc4, od4, .func (PySem.W.fnOf "_law_cell" "_law_cell" (defArgs s_law_cell) (defBody s_law_cell) (defScope s_law_cell) .none kV4 dc4 pm4 an4 cd4 ct4), sl4⟩) (c4 : PySem.W.codeIn K cd4 "_law_cell" = true) (k4 : PySem.W.keepIn K (.ref f4) = true)
    (a5 : PySem.W.nsIn K mainGlobals "_law_draws" = some (some (.ref f5))) (l5 : K.lookup f5 = some ⟨oc5, od5, .func (PySem.W.fnOf "_law_draws" "_law_draws" (defArgs s_law_draws) (defBody s_law_draws) (defScope s_law_draws) .none kV5 dc5 pm5 an5 cd5 ct5), sl5⟩) (c5 : PySem.W.codeIn K cd5 "_law_draws" = true) (k5 : PySem.W.keepIn K (.ref f5) = true)
    (a6 : PySem.W.nsIn K mainGlobals "_law_is_int" = some (some (.ref f6))) (l6 : K.lookup f6 = some ⟨oc6, od6, .func (PySem.W.fnOf "_law_is_int" "_law_is_int" (defArgs s_law_is_int) (defBody s_law_is_int) (defScope s_law_is_int) .none kV6 dc6 pm6 an6 cd6 ct6), sl6⟩) (c6 : PySem.W.codeIn K cd6 "_law_is_int" = true) (k6 : PySem.W.keepIn K (.ref f6) = true)
    (a7 : PySem.W.nsIn K mainGlobals "_law_ints" = some (some (.ref f7))) (l7 : K.lookup f7 = some ⟨oc7, od7, .func (PySem.W.fnOf "_law_ints" "_law_ints" (defArgs s_law_ints) (defBody s_law_ints) (defScope s_law_ints) .none kV7 dc7 pm7 an7 cd7 ct7), sl7⟩) (c7 : PySem.W.codeIn K cd7 "_law_ints" = true) (k7 : PySem.W.keepIn K (.ref f7) = true)
    (a8 : PySem.W.nsIn K mainGlobals "_law_is_list" = some (some (.ref f8))) (l8 : K.lookup f8 = some ⟨oc8, od8, .func (PySem.W.fnOf "_law_is_list" "_law_is_list" (defArgs s_law_is_list) (defBody s_law_is_list) (defScope s_law_is_list) .none kV8 dc8 pm8 an8 cd8 ct8), sl8⟩) (c8 : PySem.W.codeIn K cd8 "_law_is_list" = true) (k8 : PySem.W.keepIn K (.ref f8) = true)
    (a9 : PySem.W.nsIn K mainGlobals "_law_bad" = some (some (.ref f9))) (l9 : K.lookup f9 = some ⟨oc9, od9, .func (PySem.W.fnOf "_law_bad" "_law_bad" (defArgs s_law_bad) (defBody s_law_bad) (defScope s_law_bad) .none kV9 dc9 pm9 an9 cd9 ct9), sl9⟩) (c9 : PySem.W.codeIn K cd9 "_law_bad" = true) (k9 : PySem.W.keepIn K (.ref f9) = true)
    (a10 : PySem.W.nsIn K mainGlobals "law" = some (some (.ref f10))) (l10 : K.lookup f10 = some ⟨oc10, od10, .func (PySem.W.fnOf "law" "law" (defArgs s_law) (defBody s_law) (defScope s_law) .none kV10 dc10 pm10 an10 cd10 ct10), sl10⟩) (c10 : PySem.W.codeIn K cd10 "law" = true) (k10 : PySem.W.keepIn K (.ref f10) = true)
    (z_any : PySem.W.nsIn K mainGlobals "any" = some none)
    (z_bool : PySem.W.nsIn K mainGlobals "bool" = some none)
    (z_int : PySem.W.nsIn K mainGlobals "int" = some none)
    (z_isinstance : PySem.W.nsIn K mainGlobals "isinstance" = some none)
    (z_len : PySem.W.nsIn K mainGlobals "len" = some none)
    (z_list : PySem.W.nsIn K mainGlobals "list" = some none)
    (z_min : PySem.W.nsIn K mainGlobals "min" = some none)
    (z_range : PySem.W.nsIn K mainGlobals "range" = some none)
    (z_sum : PySem.W.nsIn K mainGlobals "sum" = some none)
    (z_tuple : PySem.W.nsIn K mainGlobals "tuple" = some none)
    (a_DifferentLengths : PySem.W.nsIn K mainGlobals "DifferentLengths" = some (some (.ref C_DifferentLengths))) (x_DifferentLengths : PySem.W.excIn K C_DifferentLengths [.type "ValueError", .type "Exception", .type "BaseException", .type "object"] "ValueError.__new__" = true) (k_DifferentLengths : PySem.W.keepIn K (.ref C_DifferentLengths) = true) (b_DifferentLengths : PySem.W.subIn K (.ref C_DifferentLengths) (.type "BaseException") = some true) (t_DifferentLengths : PySem.W.typeIn K (.ref C_DifferentLengths) = some (.type "type")) (i_DifferentLengths : PySem.W.isClsIn K C_DifferentLengths = true) (s_DifferentLengths : PySem.W.subIn K (.ref C_DifferentLengths) (.ref C_DifferentLengths) = some true)
    : ∃ fd : FuncData, (∀ (s : Shared) (v : Value), BindsTo s fd ⟨[v], []⟩ [("script", v)]) ∧ ∀ base : Heap, K.In base → base.Ns mainGlobals mg → FnOk l.prog w K mg base CX0 4 fa fd ["script"] (spLaw K) := by
  have e := hfa.symm.trans (PySem.W.mg_of X G a10)
  cases e
  have F1 := fun_mk (st := s_shortest_length) l1 c1 k1
  have b1 := F1.binds (ps := ["lists"]) fun _ _ _ _ _ _ us hl => match us, hl with | [_], _ => rfl
  have F2 := fun_mk (st := s_weak_places) l2 c2 k2
  have b2 := F2.binds (ps := ["lists"]) fun _ _ _ _ _ _ us hl => match us, hl with | [_], _ => rfl
  have F3 := fun_mk (st := s_steady_cells) l3 c3 k3
  have b3 := F3.binds (ps := ["lists"]) fun _ _ _ _ _ _ us hl => match us, hl with | [_], _ => rfl
  have F4 := fun_mk (st := s_law_cell) l4 c4 k4
  have b4 := F4.binds (ps := ["script", "k"]) fun _ _ _ _ _ _ us hl => match us, hl with | [_, _], _ => rfl
  have F5 := fun_mk (st := s_law_draws) l5 c5 k5
  have b5 := F5.binds (ps := ["cell", "count"]) fun _ _ _ _ _ _ us hl => match us, hl with | [_, _], _ => rfl
  have F6 := fun_mk (st := s_law_is_int) l6 c6 k6
  have b6 := F6.binds (ps := ["x"]) fun _ _ _ _ _ _ us hl => match us, hl with | [_], _ => rfl
  have F7 := fun_mk (st := s_law_ints) l7 c7 k7
  have b7 := F7.binds (ps := ["x", "kind"]) fun _ _ _ _ _ _ us hl => match us, hl with | [_, _], _ => rfl
  have F8 := fun_mk (st := s_law_is_list) l8 c8 k8
  have b8 := F8.binds (ps := ["x", "due"]) fun _ _ _ _ _ _ us hl => match us, hl with | [_, _], _ => rfl
  have F9 := fun_mk (st := s_law_bad) l9 c9 k9
  have b9 := F9.binds (ps := ["way"]) fun _ _ _ _ _ _ us hl => match us, hl with | [_], _ => rfl
  have F10 := fun_mk (st := s_law) l10 c10 k10
  have b10 := F10.binds (ps := ["script"]) fun _ _ _ _ _ _ us hl => match us, hl with | [_], _ => rfl
  have T : Tx K mg ⟨f1, _, f2, _, f3, _, f4, _, f5, _, f6, _, f7, _, f8, _, f9, _, fa, _, C_DifferentLengths⟩ := { F_shortest_length := F1, b_shortest_length := b1, g_shortest_length := PySem.W.mg_of X G a1, F_weak_places := F2, b_weak_places := b2, g_weak_places := PySem.W.mg_of X G a2, F_steady_cells := F3, b_steady_cells := b3, g_steady_cells := PySem.W.mg_of X G a3, F_law_cell := F4, b_law_cell := b4, g_law_cell := PySem.W.mg_of X G a4, F_law_draws := F5, b_law_draws := b5, g_law_draws := PySem.W.mg_of X G a5, F_law_is_int := F6, b_law_is_int := b6, g_law_is_int := PySem.W.mg_of X G a6, F_law_ints := F7, b_law_ints := b7, g_law_ints := PySem.W.mg_of X G a7, F_law_is_list := F8, b_law_is_list := b8, g_law_is_list := PySem.W.mg_of X G a8, F_law_bad := F9, b_law_bad := b9, g_law_bad := PySem.W.mg_of X G a9, F_law := F10, b_law := b10, g_law := PySem.W.mg_of X G a10, z_any := PySem.W.mg_none_of X G z_any, z_bool := PySem.W.mg_none_of X G z_bool, z_int := PySem.W.mg_none_of X G z_int, z_isinstance := PySem.W.mg_none_of X G z_isinstance, z_len := PySem.W.mg_none_of X G z_len, z_list := PySem.W.mg_none_of X G z_list, z_min := PySem.W.mg_none_of X G z_min, z_range := PySem.W.mg_none_of X G z_range, z_sum := PySem.W.mg_none_of X G z_sum, z_tuple := PySem.W.mg_none_of X G z_tuple, x_DifferentLengths := ⟨PySem.W.mg_of X G a_DifferentLengths, x_DifferentLengths, k_DifferentLengths, b_DifferentLengths, t_DifferentLengths, exm_selfD b_DifferentLengths i_DifferentLengths t_DifferentLengths s_DifferentLengths⟩ }
  exact ⟨_, fun s v => .of_eq rfl, fun base _ _ => ok_law T⟩
end K08
open PySem PySem.W PyProof.Rows
set_option maxRecDepth 100000 in
set_option maxHeartbeats 0 in
theorem PySem.Challenge.cw_discwright_k08_weak_and_steady_cells_holds : PySem.Challenge.rw_discwright_k08_weak_and_steady_cells.Holds := by
  w_on; o_law; k_head; (case hw => w_witness2)
  k_fill
  refine L2.walk_of (l := PySem.Challenge.rw_discwright_k08_weak_and_steady_cells) (n := 63) (k := 4) (x := "script") (CX := fun _ => L2.CX0) (sp := fun w => K08.spLaw _) rfl (by decide) rfl ⟨rfl, by decide, by decide⟩ (fun w h Y => PySem.W.kIn_of Y) ?F (fun _ _ a ns hl _ hS => ⟨a, ns, rfl, hS, hl, fun _ => rfl⟩) (fun _ _ _ _ _ h => h)
  case F =>
    intro w mg fa h KX G hmg
    refine' K08.all_mk KX G hmg ?a1 ?l1 ?c1 ?k1 ?a2 ?l2 ?c2 ?k2 ?a3 ?l3 ?c3 ?k3 ?a4 ?l4 ?c4 ?k4 ?a5 ?l5 ?c5 ?k5 ?a6 ?l6 ?c6 ?k6 ?a7 ?l7 ?c7 ?k7 ?a8 ?l8 ?c8 ?k8 ?a9 ?l9 ?c9 ?k9 ?a10 ?l10 ?c10 ?k10 ?z_any ?z_bool ?z_int ?z_isinstance ?z_len ?z_list ?z_min ?z_range ?z_sum ?z_tuple ?a_DifferentLengths ?x_DifferentLengths ?k_DifferentLengths ?b_DifferentLengths ?t_DifferentLengths ?i_DifferentLengths ?s_DifferentLengths
    (case a1 => k_is)
    (case l1 => k_is)
    (case c1 => k_is)
    (case k1 => k_is)
    (case a2 => k_is)
    (case l2 => k_is)
    (case c2 => k_is)
    (case k2 => k_is)
    (case a3 => k_is)
    (case l3 => k_is)
    (case c3 => k_is)
    (case k3 => k_is)
    (case a4 => k_is)
    (case l4 => k_is)
    (case c4 => k_is)
    (case k4 => k_is)
    (case a5 => k_is)
    (case l5 => k_is)
    (case c5 => k_is)
    (case k5 => k_is)
    (case a6 => k_is)
    (case l6 => k_is)
    (case c6 => k_is)
    (case k6 => k_is)
    (case a7 => k_is)
    (case l7 => k_is)
    (case c7 => k_is)
    (case k7 => k_is)
    (case a8 => k_is)
    (case l8 => k_is)
    (case c8 => k_is)
    (case k8 => k_is)
    (case a9 => k_is)
    (case l9 => k_is)
    (case c9 => k_is)
    (case k9 => k_is)
    (case a10 => k_is)
    (case l10 => k_is)
    (case c10 => k_is)
    (case k10 => k_is)
    (case z_any => k_is)
    (case z_bool => k_is)
    (case z_int => k_is)
    (case z_isinstance => k_is)
    (case z_len => k_is)
    (case z_list => k_is)
    (case z_min => k_is)
    (case z_range => k_is)
    (case z_sum => k_is)
    (case z_tuple => k_is)
    (case a_DifferentLengths => k_is)
    (case x_DifferentLengths => k_exc)
    (case k_DifferentLengths => k_is)
    (case b_DifferentLengths => k_is)
    (case t_DifferentLengths => k_is)
    (case i_DifferentLengths => k_is)
    (case s_DifferentLengths => first | rfl | k_is)

