import PyProof.Rows.All
import Wide.All
import OpenK.AllK
import Wide.FinOn
import HandS.ForMost
import HandS.IsInst
import HandS.Flow
import HandS.WideBits
import HandS.Defaults
import HandS.Exc
import HandS.ExcOwn
import HandS.TryOnly
import HandS.TryMany
import HandS.WordsExc
import HandS.ExcIs
import HandS.Walk
import HandS.Small
import HandS.Wide
import HandS.Style
import HandS.Codes
import KE.GoesMore
import PySem.Challenge.RW_discwright_k83_whole_clocks_withstand_no
set_option Elab.async false
set_option linter.all false
set_option maxRecDepth 100000
set_option maxHeartbeats 4000000
namespace Dw
open PySem PySem.Spec PyProof.Rows L2
/-! ### sizes -/
theorem line_le {n : Nat} (h : n ≤ 16777216) : n ≤ sizeLine := by rw [sizeLine_eq]; exact h
theorem line_lt {n : Nat} (h : n < 16777216) : n < sizeLine := by rw [sizeLine_eq]; exact h
/-! ### heaps -/
theorem same_new {H : Hp} {p : Addr} (h : H p = none) (o : HO) : Same H (upd H p o) := fun b u q => by rw [upd_ne (ne_of_none q h)]; exact q
/-- all but P stands as it was -/
def SameB (P : Addr) (H H' : Hp) : Prop := ∀ b o, b ≠ P → H b = some o → H' b = some o
theorem SameB.refl (P : Addr) (H : Hp) : SameB P H H := fun _ _ _ h => h
theorem SameB.trans {P : Addr} {H H1 H2 : Hp} (a : SameB P H H1) (b : SameB P H1 H2) : SameB P H H2 := fun x o n h => b x o n (a x o n h)
theorem Same.b {P : Addr} {H H' : Hp} (a : Same H H') : SameB P H H' := fun x o _ h => a x o h
theorem sameB_upd {P : Addr} {H : Hp} (o : HO) : SameB P H (upd H P o) := fun b u n q => by rw [upd_ne n]; exact q
/-- a ghost heap without P stands in what was changed at P alone -/
theorem Same.but {P : Addr} {G H H' : Hp} (g : Same G H) (n : G P = none) (s : SameB P H H') : Same G H' := fun b o q => s b o (ne_of_none q n) (g b o q)
theorem same_upd {G H : Hp} {p : Addr} {o : HO} (g : Same G H) : Same (upd G p o) (upd H p o) := fun b u q => by
  by_cases e : b = p
  · subst e
    rw [upd_same] at q ⊢
    exact q
  · rw [upd_ne e] at q ⊢
    exact g b u q
theorem same_none {G H : Hp} {p : Addr} (g : Same G H) (h : H p = none) : G p = none := by
  cases e : G p with
  | none => rfl
  | some o => rw [g p o e] at h; cases h
theorem upd_none {G : Hp} {p P : Addr} {o : HO} (n : G P = none) (ne : P ≠ p) : upd G p o P = none := by rw [upd_ne ne]; exact n
/-! ### the script -/
/-- the pool at p: the script's numbers at q, and four numbers -/
def PoolL (q : Addr) (a b c d : Int) : HO := .lst [.ref q, .int a, .int b, .int c, .int d]
def Pool (H : Hp) (p q : Addr) : Prop := ∃ (ns : List Int) (a b c d : Int), H p = some (PoolL q a b c d) ∧ H q = some (.lst (ns.map V.int)) ∧ 0 ≤ a ∧ ns.length ≤ 63
theorem Pool.same {H H' : Hp} {p q : Addr} (h : Pool H p q) (s : Same H H') : Pool H' p q := by
  obtain ⟨ns, a, b, c, d, h1, h2, h3⟩ := h
  exact ⟨ns, a, b, c, d, s _ _ h1, s _ _ h2, h3⟩
theorem Pool.there {H : Hp} {p q : Addr} (h : Pool H p q) : ∃ o, H p = some o := by
  obtain ⟨ns, a, b, c, d, h1, _⟩ := h
  exact ⟨_, h1⟩
theorem Pool.ne {H : Hp} {p q r : Addr} (h : Pool H p q) (n : H r = none) : p ≠ r := by
  obtain ⟨o, e⟩ := h.there
  exact ne_of_none e n
theorem Pool.ne2 {H : Hp} {p q r : Addr} (h : Pool H p q) (n : H r = none) : q ≠ r := by
  obtain ⟨ns, a, b, c, d, h1, h2, _⟩ := h
  exact ne_of_none h2 n
theorem pool_ne {H : Hp} {p q : Addr} {a b c d : Int} {ns : List Int} (h1 : H p = some (PoolL q a b c d)) (h2 : H q = some (.lst (ns.map V.int))) : q ≠ p := by
  refine ne_of h2 h1 fun e => ?_
  unfold PoolL at e
  injection e with e
  cases ns with
  | nil => cases e
  | cons x r => rw [List.map_cons] at e; injection e with e _; cases e
/-- a pool's numbers written anew -/
theorem Pool.put {H : Hp} {p q : Addr} {a b c d a' b' c' d' : Int} {ns : List Int} (h1 : H p = some (PoolL q a b c d)) (h2 : H q = some (.lst (ns.map V.int))) (h3 : 0 ≤ a') (h4 : ns.length ≤ 63) : Pool (upd H p (PoolL q a' b' c' d')) p q :=
  ⟨ns, a', b', c', d', upd_same, by rw [upd_ne (pool_ne h1 h2)]; exact h2, h3, h4⟩
/-! ### what the shared defs promise -/
def spPool (K : PySem.W.Frag) : Sp := fun vs H Q _ => ∃ (a : Addr) (ns : List Int), vs = [.ref a] ∧ SqL K H a (ns.map V.int) ∧ ns.length ≤ 63 ∧ ∀ p q H', Same H H' → H p = none → H q = none → Pool H' p q → Q (.ref p) H'
def spSpread : Sp := fun vs H Q _ => ∃ n : Int, vs = [.int n] ∧ ∀ m : Int, Q (.int m) H
def spDraw : Sp := fun vs H Q _ => ∃ (p q : Addr) (m : Int), vs = [.ref p, .int m] ∧ Pool H p q ∧ 0 < m ∧ m < 1073741824 ∧ ∀ r H', 0 ≤ r → r < m → Pool H' p q → SameB p H H' → Q (.int r) H'
/-- a def of whole numbers -/
def spI1 (C : Int → Prop) (g : Int → Int) : Sp := fun vs H Q _ => ∃ n : Int, vs = [.int n] ∧ C n ∧ Q (.int (g n)) H
def spI2 (C : Int → Int → Prop) (g : Int → Int → Int) : Sp := fun vs H Q _ => ∃ n m : Int, vs = [.int n, .int m] ∧ C n m ∧ Q (.int (g n m)) H

/-! ### rules by a stronger reading -/
section
variable {X : Cx}
theorem OpR.imp {f : Value → Value → Sem Value} {r r' : R2} (h : OpR X f r) (i : ∀ x y H Q, r' x y H Q → r x y H Q) : OpR X f r' := fun pins s σ H x y v u Q I rx ry q => h pins s σ H x y v u Q I rx ry (i _ _ _ _ q)
theorem CallR.imp {f : Value} {r r' : List V → Hp → VK → Prop} (h : CallR X f r) (i : ∀ xs H Q, r' xs H Q → r xs H Q) : CallR X f r' := fun pins s σ H xs us Q I r q => h pins s σ H xs us Q I r (i _ _ _ q)
theorem IxR.imp {r r' : R2} (h : IxR X r) (i : ∀ x y H Q, r' x y H Q → r x y H Q) : IxR X r' := fun a b pins s σ H x y v u Q I rx ry q => h a b pins s σ H x y v u Q I rx ry (i _ _ _ _ q)
theorem MtR.imp {id : String} {r r' : V → List V → Hp → VK → Prop} (h : MtR X id r) (i : ∀ x xs H Q, r' x xs H Q → r x xs H Q) : MtR X id r' := fun pins s σ H x xs v us Q I rx ry q => h pins s σ H x xs v us Q I rx ry (i _ _ _ _ q)
theorem SlR.imp {r r' : V → Option Int → Option Int → Hp → VK → Prop} (h : SlR X r) (i : ∀ x lo hi H Q, r' x lo hi H Q → r x lo hi H Q) : SlR X r' := fun pins s σ H x v vl vu lo hi sl Q I rx hs pl pu q => h pins s σ H x v vl vu lo hi sl Q I rx hs pl pu (i _ _ _ _ _ q)
theorem PE.imp {e : Expr} {t t' : TE} (h : PE X e t) (i : ∀ σ H Q, t' σ H Q → t σ H Q) : PE X e t' := ⟨fun pins s σ H Q I q => h.run pins s σ H Q I (i _ _ _ q)⟩
theorem PT.imp {e : Expr} {t t' : TT} (h : PT X e t) (i : ∀ σ H Q, t' σ H Q → t σ H Q) : PT X e t' := ⟨fun pins s σ H Q I q => h.run pins s σ H Q I (i _ _ _ q)⟩
theorem PS.imp {e : Stmt} {t t' : TS} (h : PS X e t) (i : ∀ D σ H, t' D σ H → t D σ H) : PS X e t' := ⟨fun pins s σ H D I q => h.run pins s σ H D I (i _ _ _ q)⟩
theorem PSet.imp {r r' : TSet} (h : PSet X r) (i : ∀ o k v H Q, r' o k v H Q → r o k v H Q) : PSet X r' := fun pins s σ H o k v ov iv u Q I ro ri rv q => h pins s σ H o k v ov iv u Q I ro ri rv (i _ _ _ _ _ q)
/-! ### lists of ints -/
def IL (ns : List Int) : HO := .lst (ns.map V.int)
theorem IL_inj {a b : List Int} : (IL a = IL b) = (a = b) := by
  apply propext
  constructor
  · intro h
    unfold IL at h
    injection h with h
    exact List.map_inj_right (fun x y e => V.int.inj e) |>.mp h
  · intro h
    rw [h]
def toInts : List V → Option (List Int)
  | [] => some []
  | .int i :: r => (toInts r).map (i :: ·)
  | _ => none
theorem toInts_eq : ∀ {xs : List V} {ns : List Int}, toInts xs = some ns → xs = ns.map V.int
  | [], ns, h => by
    unfold toInts at h
    cases h
    rfl
  | .int i :: r, ns, h => by
    unfold toInts at h
    cases e : toInts r with
    | none => rw [e] at h; cases h
    | some ms =>
      rw [e] at h
      cases h
      rw [List.map_cons, toInts_eq e]
  | .non :: _, _, h => by unfold toInts at h; cases h
  | .bl _ :: _, _, h => by unfold toInts at h; cases h
  | .str _ :: _, _, h => by unfold toInts at h; cases h
  | .byt _ :: _, _, h => by unfold toInts at h; cases h
  | .flt _ :: _, _, h => by unfold toInts at h; cases h
  | .ref _ :: _, _, h => by unfold toInts at h; cases h
  | .ty _ :: _, _, h => by unfold toInts at h; cases h
theorem toInts_cons {i : Int} {r : List V} : toInts (.int i :: r) = (toInts r).map (i :: ·) := rfl
theorem toInts_nil : toInts [] = some [] := rfl
def isL : Option HO → Bool
  | some (.lst _) => true
  | _ => false
theorem isL_IL {ns : List Int} : isL (some (IL ns)) = true := rfl
theorem isL_lst {xs : List V} : isL (some (.lst xs)) = true := rfl
theorem isL_of {o : Option HO} (h : isL o = true) : ∃ xs, o = some (.lst xs) := by
  cases o with
  | none => cases h
  | some u =>
    cases u with
    | lst xs => exact ⟨xs, rfl⟩
    | _ => cases h
def rCatI : R2 := fun x y H Q => ∃ l b xs zs, x = .ref l ∧ y = .ref b ∧ H l = some (IL xs) ∧ H b = some (IL zs) ∧ xs.length + zs.length ≤ sizeLine ∧ ∀ p, H p = none → Q (.ref p) (upd H p (IL (xs ++ zs)))
theorem op_catI : OpR X (binaryOp .Add) rCatI := OpR.imp op_cat fun x y H Q h => by
  obtain ⟨l, b, xs, zs, e1, e2, h1, h2, h3, q⟩ := h
  exact ⟨l, b, _, _, e1, e2, h1, h2, by rw [List.length_map, List.length_map]; exact h3, fun p hp => by rw [← List.map_append]; exact q p hp⟩
def rep (k : Int) (xs : List Int) : List Int := (List.replicate k.toNat xs).flatten
theorem rep_one (k : Int) (x : Int) : rep k [x] = List.replicate k.toNat x := by
  unfold rep
  generalize k.toNat = n
  induction n with
  | zero => rfl
  | succ n ih => rw [List.replicate_succ, List.flatten_cons, ih, List.replicate_succ]; rfl
def rRepI : R2 := fun x y H Q => ∃ l k xs, x = .ref l ∧ y = .int k ∧ H l = some (IL xs) ∧ (-(2 ^ 63) ≤ k ∧ k < 2 ^ 63 ∧ xs.length * k.toNat ≤ sizeLine) ∧ ∀ p, H p = none → Q (.ref p) (upd H p (IL (rep k xs)))
theorem map_rep (k : Nat) (xs : List Int) : (List.replicate k (xs.map V.int)).flatten = (List.replicate k xs).flatten.map V.int := by
  induction k with
  | zero => rfl
  | succ n ih => rw [List.replicate_succ, List.flatten_cons, ih, List.replicate_succ, List.flatten_cons, List.map_append]
theorem op_repI : OpR X (binaryOp .Mult) rRepI := OpR.imp op_rep fun x y H Q h => by
  obtain ⟨l, k, xs, e1, e2, h1, ⟨h2, h3, h4⟩, q⟩ := h
  exact ⟨l, k, _, e1, e2, h1, h2, h3, by rw [List.length_map]; exact h4, fun p hp => by rw [map_rep]; exact q p hp⟩
def rIxI : R2 := fun x y H Q => ∃ p ns i, x = .ref p ∧ y = .int i ∧ H p = some (IL ns) ∧ (0 ≤ i ∧ i < (ns.length : Int)) ∧ Q (.int (ns.getD i.toNat 0)) H
theorem atI_int {ns : List Int} {i : Int} (h0 : 0 ≤ i) (h1 : i < (ns.length : Int)) : atI (ns.map V.int) i = some (.int (ns.getD i.toNat 0)) := by
  have hk : i.toNat < ns.length := by omega
  have e : i = ((i.toNat : Nat) : Int) := by omega
  have q : atI (ns.map V.int) ((i.toNat : Nat) : Int) = some (.int (ns.getD i.toNat 0)) := atI_nat (by
    rw [List.getElem?_map, List.getElem?_eq_getElem hk, List.getD_eq_getElem?_getD, List.getElem?_eq_getElem hk]
    rfl)
  rw [← e] at q
  exact q
theorem ix_listI : IxR X rIxI := IxR.imp ix_list fun x y H Q h => by
  obtain ⟨p, ns, i, e1, e2, h1, ⟨h2, h3⟩, q⟩ := h
  exact ⟨p, _, i, _, e1, e2, .of h1, atI_int h2 h3, q⟩
def rIxH : R2 := fun x y H Q => ∃ p xs i v, x = .ref p ∧ y = .int i ∧ H p = some (.lst xs) ∧ atI xs i = some v ∧ Q v H
theorem ix_listH : IxR X rIxH := IxR.imp ix_list fun x y H Q h => by
  obtain ⟨p, xs, i, v, e1, e2, h1, h2, q⟩ := h
  exact ⟨p, _, i, _, e1, e2, .of h1, h2, q⟩
def rIxTH : R2 := fun x y H Q => ∃ p xs i v, x = .ref p ∧ y = .int i ∧ H p = some (.tup xs) ∧ atI xs i = some v ∧ Q v H
theorem ix_tupH : IxR X rIxTH := IxR.imp ix_tup fun x y H Q h => by
  obtain ⟨p, xs, i, v, e1, e2, h1, h2, q⟩ := h
  exact ⟨p, _, i, _, e1, e2, .of h1, h2, q⟩
def cutI (xs : List Int) (lo hi : Option Int) : List Int := (xs.drop (HT.sIx xs.length 0 lo)).take (HT.sIx xs.length xs.length hi - HT.sIx xs.length 0 lo)
theorem cutV_int (ns : List Int) (lo hi : Option Int) : cutV (ns.map V.int) lo hi = (cutI ns lo hi).map V.int := by
  unfold cutV cutI
  rw [List.length_map, List.map_take, List.map_drop]
def rSlI : V → Option Int → Option Int → Hp → VK → Prop := fun x lo hi H Q => ∃ a ns, x = .ref a ∧ H a = some (IL ns) ∧ ∀ p, H p = none → Q (.ref p) (upd H p (IL (cutI ns lo hi)))
theorem sl_listI : SlR X rSlI := SlR.imp sl_list fun x lo hi H Q h => by
  obtain ⟨a, ns, e1, h1, q⟩ := h
  exact ⟨a, _, e1, .of h1, fun p hp => by rw [cutV_int]; exact q p hp⟩
def rSlS (K : PySem.W.Frag) : V → Option Int → Option Int → Hp → VK → Prop := fun x lo hi H Q => ∃ a ns, x = .ref a ∧ SqL K H a (ns.map V.int) ∧ ∀ p, H p = none → Q (.ref p) (upd H p (IL (cutI ns lo hi)))
theorem sl_listS : SlR X (rSlS X.K) := SlR.imp sl_list fun x lo hi H Q h => by
  obtain ⟨a, ns, e1, h1, q⟩ := h
  exact ⟨a, _, e1, h1, fun p hp => by rw [cutV_int]; exact q p hp⟩
def rLenI : List V → Hp → VK → Prop := fun xs H Q => ∃ p ns, xs = [.ref p] ∧ H p = some (IL ns) ∧ Q (.int (ns.length : Int)) H
theorem call_lenI : CallR X (.builtin "len") rLenI := CallR.imp call_len_seq fun xs H Q h => by
  obtain ⟨p, ns, e, h1, q⟩ := h
  exact ⟨p, _, e, .inl (.of h1), by rw [List.length_map]; exact q⟩
def rLenH : List V → Hp → VK → Prop := fun xs H Q => ∃ p ys, xs = [.ref p] ∧ H p = some (.lst ys) ∧ Q (.int (ys.length : Int)) H
theorem call_lenH : CallR X (.builtin "len") rLenH := CallR.imp call_len_seq fun xs H Q h => by
  obtain ⟨p, ns, e, h1, q⟩ := h
  exact ⟨p, _, e, .inl (.of h1), q⟩
def rLenTH : List V → Hp → VK → Prop := fun xs H Q => ∃ p ys, xs = [.ref p] ∧ H p = some (.tup ys) ∧ Q (.int (ys.length : Int)) H
theorem call_lenTH : CallR X (.builtin "len") rLenTH := CallR.imp call_len_seq fun xs H Q h => by
  obtain ⟨p, ns, e, h1, q⟩ := h
  exact ⟨p, _, e, .inr (.of h1), q⟩
def rListI : List V → Hp → VK → Prop := fun xs H Q => ∃ p ns, xs = [.ref p] ∧ H p = some (IL ns) ∧ ∀ l, H l = none → Q (.ref l) (upd H l (IL ns))
theorem call_listI : CallR X (.type "list") rListI := CallR.imp call_list_of fun xs H Q h => by
  obtain ⟨p, ns, e, h1, q⟩ := h
  exact ⟨p, _, e, .inl (.of h1), q⟩
def rListS (K : PySem.W.Frag) : List V → Hp → VK → Prop := fun xs H Q => ∃ p ns, xs = [.ref p] ∧ SqL K H p (ns.map V.int) ∧ ∀ l, H l = none → Q (.ref l) (upd H l (IL ns))
theorem call_listS : CallR X (.type "list") (rListS X.K) := CallR.imp call_list_of fun xs H Q h => by
  obtain ⟨p, ns, e, h1, q⟩ := h
  exact ⟨p, _, e, .inl h1, q⟩
def rIntI : List V → Hp → VK → Prop := fun xs H Q => ∃ i, xs = [.int i] ∧ Q (.int i) H
theorem call_intI : CallR X (.type "int") rIntI := CallR.imp call_int1 fun xs H Q h => .inl h
def rIntB : List V → Hp → VK → Prop := fun xs H Q => ∃ k, xs = [.bl k] ∧ Q (.int (if k = true then 1 else 0)) H
theorem call_intB : CallR X (.type "int") rIntB := CallR.imp call_int1 fun xs H Q h => .inr h
def rSumI : List V → Hp → VK → Prop := fun xs H Q => ∃ p ns, xs = [.ref p] ∧ H p = some (IL ns) ∧ Q (.int ns.sum) H
theorem cr_sumI (hc : X.calm = true) : CallR X (.builtin "sum") rSumI := CallR.imp (cr_sum hc) fun xs H Q h => by
  obtain ⟨p, ns, e, h1, q⟩ := h
  exact ⟨p, _, e, .of h1, q⟩
def rAppendI : V → List V → Hp → VK → Prop := fun x vs H Q => ∃ l xs y, x = .ref l ∧ vs = [.int y] ∧ H l = some (IL xs) ∧ xs.length < sizeLine ∧ Q .non (upd H l (IL (xs ++ [y])))
theorem mt_appendI : MtR X "list.append" rAppendI := MtR.imp mt_append fun x vs H Q h => by
  obtain ⟨l, xs, y, e1, e2, h1, h2, q⟩ := h
  refine ⟨l, _, _, e1, e2, h1, by rw [List.length_map]; exact h2, ?_⟩
  have e : xs.map V.int ++ [V.int y] = (xs ++ [y]).map V.int := by rw [List.map_append]; rfl
  rw [e]
  exact q
def rExtendI : V → List V → Hp → VK → Prop := fun x vs H Q => ∃ l b xs zs, x = .ref l ∧ vs = [.ref b] ∧ H l = some (IL xs) ∧ H b = some (IL zs) ∧ xs.length + zs.length ≤ sizeLine ∧ Q .non (upd H l (IL (xs ++ zs)))
theorem mt_extendI : MtR X "list.extend" rExtendI := MtR.imp mt_extend fun x vs H Q h => by
  obtain ⟨l, b, xs, zs, e1, e2, h1, h2, h3, q⟩ := h
  exact ⟨l, b, _, _, e1, e2, h1, h2, by rw [List.length_map, List.length_map]; exact h3, by rw [← List.map_append]; exact q⟩
def rSetI : TSet := fun o i v H Q => ∃ p ns k y, o = .ref p ∧ i = .int k ∧ v = .int y ∧ H p = some (IL ns) ∧ (0 ≤ k ∧ k < (ns.length : Int)) ∧ Q (upd H p (IL (ns.set k.toNat y)))
theorem ixN_nn {n : Nat} {k : Int} (h0 : 0 ≤ k) (h1 : k < (n : Int)) : ixN n k = some k.toNat := by
  unfold ixN
  rw [if_pos h0, if_pos h1]
theorem set_listI : PSet X rSetI := PSet.imp set_list fun o i v H Q h => by
  obtain ⟨p, ns, k, y, e1, e2, e3, h1, ⟨h2, h3⟩, q⟩ := h
  refine ⟨p, _, k, k.toNat, e1, e2, h1, ixN_nn h2 (by rw [List.length_map]; exact h3), ?_⟩
  rw [e3, ← List.map_set]
  exact q
/-- xs[k] = v of any list at a written place -/
def rSetH : TSet := fun o i v H Q => ∃ p xs k, o = .ref p ∧ i = .int k ∧ H p = some (.lst xs) ∧ (0 ≤ k ∧ k < (xs.length : Int)) ∧ Q (upd H p (.lst (xs.set k.toNat v)))
theorem set_listH : PSet X rSetH := PSet.imp set_list fun o i v H Q h => by
  obtain ⟨p, xs, k, e1, e2, h1, ⟨h2, h3⟩, q⟩ := h
  exact ⟨p, _, k, k.toNat, e1, e2, h1, ixN_nn h2 h3, q⟩
/-! ### == of lists of ints -/
theorem dp_ints {K : PySem.W.Frag} {H : Hp} : ∀ ns : List Int, DpAll K H (ns.map V.int) (ns.map PyData.int)
  | [] => .nil
  | n :: r => .cons (.int n) (dp_ints r)
theorem dp_IL {K : PySem.W.Frag} {H : Hp} {p : Addr} {ns : List Int} (h : H p = some (IL ns)) : Dp K H (.ref p) (.list (ns.map PyData.int)) := .lst (.of h) (dp_ints ns)
theorem eqvAll_ints : ∀ ns ms : List Int, PyData.eqvAll (ns.map PyData.int) (ms.map PyData.int) = decide (ns = ms)
  | [], [] => by
    show PyData.eqvAll [] [] = _
    rw [PyData.eqvAll]
    rfl
  | [], _ :: _ => by
    show PyData.eqvAll [] (_ :: _) = _
    rw [PyData.eqvAll, decide_eq_false (fun e => by cases e)]
  | _ :: _, [] => by
    show PyData.eqvAll (_ :: _) [] = _
    rw [PyData.eqvAll, decide_eq_false (fun e => by cases e)]
  | n :: ns, m :: ms => by
    show PyData.eqvAll (.int n :: ns.map PyData.int) (.int m :: ms.map PyData.int) = _
    rw [PyData.eqvAll, eqvAll_ints ns ms, PyData.eqv]
    by_cases h : n = m
    · subst h
      by_cases h2 : ns = ms
      · subst h2; simp
      · rw [decide_eq_false h2, decide_eq_false (fun e => h2 (List.cons.inj e).2)]; simp
    · rw [decide_eq_false (fun e => h (List.cons.inj e).1)]
      have : (n == m) = false := by simp [h]
      rw [this]; rfl
theorem canLay_ints : ∀ ns : List Int, PyData.canLayAll0 (ns.map PyData.int) = true
  | [] => rfl
  | n :: ns => by
    show PyData.canLayAll0 (.int n :: ns.map PyData.int) = true
    rw [PyData.canLayAll0, canLay_ints ns]; rfl
theorem depthAll_ints : ∀ ns : List Int, PyData.depthAll (ns.map PyData.int) ≤ 1
  | [] => by decide
  | n :: ns => by
    show PyData.depthAll (.int n :: ns.map PyData.int) ≤ 1
    have := depthAll_ints ns
    simp only [PyData.depthAll, PyData.depth]
    omega
theorem shaped_ints (ns : List Int) : SeqAt.shaped (.list (ns.map PyData.int)) = true := by
  have h1 := canLay_ints ns
  have h2 := depthAll_ints ns
  unfold SeqAt.shaped
  rw [Bool.and_eq_true]
  refine ⟨by rw [PyData.canLay0]; exact h1, decide_eq_true ?_⟩
  simp only [PyData.depth]
  omega
def rEqI : R2 := fun x y H Q => ∃ p q ns ms, x = .ref p ∧ y = .ref q ∧ H p = some (IL ns) ∧ H q = some (IL ms) ∧ Q (.bl (decide (ns = ms))) H
theorem op_eqI (hu : X.A.units + 64 < cLine) : OpR X (compareOp .Eq) rEqI := OpR.imp (op_eqD hu) fun x y H Q h => by
  obtain ⟨p, q, ns, ms, rfl, rfl, h1, h2, k⟩ := h
  refine ⟨_, _, dp_IL h1, dp_IL h2, shaped_ints ns, shaped_ints ms, ?_⟩
  rw [PyData.eqv, eqvAll_ints]
  exact k
def rNeI : R2 := fun x y H Q => ∃ p q ns ms, x = .ref p ∧ y = .ref q ∧ H p = some (IL ns) ∧ H q = some (IL ms) ∧ Q (.bl (!decide (ns = ms))) H
theorem op_neI (hu : X.A.units + 64 < cLine) : OpR X (compareOp .NotEq) rNeI := OpR.imp (op_neD hu) fun x y H Q h => by
  obtain ⟨p, q, ns, ms, rfl, rfl, h1, h2, k⟩ := h
  refine ⟨_, _, dp_IL h1, dp_IL h2, shaped_ints ns, shaped_ints ms, ?_⟩
  rw [PyData.eqv, eqvAll_ints]
  exact k
/-! ### displays of ints, methods of lists -/
def rMax2 : List V → Hp → VK → Prop := fun xs H Q => ∃ i j, xs = [.int i, .int j] ∧ Q (.int (max i j)) H
def rMin2 : List V → Hp → VK → Prop := fun xs H Q => ∃ i j, xs = [.int i, .int j] ∧ Q (.int (min i j)) H
theorem max_if (i j : Int) : (if j > i then j else i) = max i j := by
  split <;> omega
theorem min_if (i j : Int) : (if j < i then j else i) = min i j := by
  split <;> omega
theorem call_maxI (hc : X.calm = true) : CallR X (.builtin "max") rMax2 := CallR.imp (call_max2 hc) fun xs H Q h => by
  obtain ⟨i, j, e, q⟩ := h
  exact ⟨i, j, e, by rw [max_if]; exact q⟩
theorem call_minI (hc : X.calm = true) : CallR X (.builtin "min") rMin2 := CallR.imp (call_min2 hc) fun xs H Q h => by
  obtain ⟨i, j, e, q⟩ := h
  exact ⟨i, j, e, by rw [min_if]; exact q⟩
def rIsN : R2 := fun x y H Q => y = V.non ∧ Q (.bl (decide (x = V.non))) H
def rIsNotN : R2 := fun x y H Q => y = V.non ∧ Q (.bl (!decide (x = V.non))) H
theorem op_isNone : OpR X (compareOp .Is) rIsN := op_isN
theorem op_notNone : OpR X (compareOp .IsNot) rIsNotN := op_notN
def rStrIn : R2 := fun x y H Q => ∃ i j, x = .str i ∧ y = .str j ∧ Q (.bl (!(Builtin.Str.occurrences j i 0 j.length 1).isEmpty)) H
theorem op_strIn : OpR X (compareOp .In) rStrIn := op_in_str
def rStrNotIn : R2 := fun x y H Q => ∃ i j, x = .str i ∧ y = .str j ∧ Q (.bl (!(!(Builtin.Str.occurrences j i 0 j.length 1).isEmpty))) H
theorem op_strNotIn : OpR X (compareOp .NotIn) rStrNotIn := op_notin_str
def tLstI (t : TA) : TE := fun σ H Q => t σ H fun xs H1 => ∃ ns, toInts xs = some ns ∧ ns.length ≤ sizeLine ∧ ∀ p, H1 p = none → Q (.ref p) (upd H1 p (IL ns))
theorem pe_lstI {es : List Expr} {t : TA} {pos : Pos} (h : PA X es t) : PE X (.List es pos) (tLstI t) := by
  refine ⟨fun pins s σ H Q I hq => ?_⟩
  refine wpAny_List_spliced (thn (h.run pos pins s σ H _ I hq) fun us s1 ⟨xs, H1, I1, r, ns, e, z, q⟩ => ?_)
  have e2 := toInts_eq e
  have z2 : xs.length ≤ sizeLine := by rw [e2, List.length_map]; exact z
  refine ⟨by rw [← r.length]; exact z2, ?_⟩
  have hf : H1 s1.heap.objs.size = none := I1.hok.fresh (Nat.le_refl _)
  have q' := q _ hf
  have e3 : IL ns = .lst xs := by unfold IL; rw [e2]
  rw [e3] at q'
  refine ⟨.ref s1.heap.objs.size, upd H1 s1.heap.objs.size (.lst xs), I1.laid (t' := s1.toks) (fun b u e => Heap.get?_push_of_some _ e) (Nat.le_refl _) ?_, rfl, q'⟩
  exact ⟨z2, us, 0, r, Heap.get?_push_size _ rfl⟩
/-- a method of a list that stands in a name: the slot i -/
def tBML (i : Nat) (r : V → List V → Hp → VK → Prop) (t : TA) : TE := fun σ H Q => ∃ p, σ[i]? = some (some (.ref p)) ∧ isL (H p) = true ∧ t σ H fun xs H2 => r (.ref p) xs H2 Q
theorem bml_imp {K : PySem.W.Frag} {i : Nat} {r : V → List V → Hp → VK → Prop} {t : TA} : ∀ σ H Q, tBML i r t σ H Q → tBM K "list" r (tVar i) t σ H Q := by
  intro σ H Q ⟨p, e, h, q⟩
  obtain ⟨xs, hx⟩ := isL_of h
  exact ⟨_, e, .inl ⟨rfl, _, .of hx⟩, q⟩
def tBML0 (i : Nat) (r : V → List V → Hp → VK → Prop) : TE := fun σ H Q => ∃ p, σ[i]? = some (some (.ref p)) ∧ isL (H p) = true ∧ r (.ref p) [] H Q
theorem bml0_imp {K : PySem.W.Frag} {i : Nat} {r : V → List V → Hp → VK → Prop} : ∀ σ H Q, tBML0 i r σ H Q → tBM0 K "list" r (tVar i) σ H Q := by
  intro σ H Q ⟨p, e, h, q⟩
  obtain ⟨xs, hx⟩ := isL_of h
  exact ⟨_, e, .inl ⟨rfl, _, .of hx⟩, q⟩
end
/-! ### written places and bounds -/
theorem atI_k {α : Type} (xs : List α) (k : Nat) : atI xs (k : Int) = xs[k]? := by
  unfold atI ixN
  rw [if_pos (Int.natCast_nonneg k)]
  by_cases h : k < xs.length
  · rw [if_pos (by omega), Int.toNat_natCast]; rfl
  · rw [if_neg (by omega), List.getElem?_eq_none (by omega)]; rfl
theorem atI_0 {α : Type} (xs : List α) : atI xs 0 = xs[0]? := atI_k xs 0
theorem atI_1 {α : Type} (xs : List α) : atI xs 1 = xs[1]? := atI_k xs 1
theorem atI_2 {α : Type} (xs : List α) : atI xs 2 = xs[2]? := atI_k xs 2
theorem atI_3 {α : Type} (xs : List α) : atI xs 3 = xs[3]? := atI_k xs 3
theorem atI_4 {α : Type} (xs : List α) : atI xs 4 = xs[4]? := atI_k xs 4
theorem cmul_r {i j : Int} (h1 : -18446744073709551616 < j) (h2 : j < 18446744073709551616) : CMul i j = True := eq_true (.inr ⟨h1, h2⟩)
theorem cmul_l {i j : Int} (h1 : -18446744073709551616 < i) (h2 : i < 18446744073709551616) : CMul i j = True := eq_true (.inl ⟨h1, h2⟩)
theorem cdiv_r {i j : Int} (h1 : 0 < j) (h2 : j < 1073741824) : CDiv i j = True := eq_true ⟨h1, h2⟩
theorem cast_lit (n : Nat) : ((no_index (OfNat.ofNat n) : Nat) : Int) = OfNat.ofNat n := rfl
/-! ### data that is tracked -/
mutual
inductive Dt (H : Hp) : V → PyData → Prop
  | non : Dt H .non .none
  | bl (b : Bool) : Dt H (.bl b) (.bool b)
  | int (i : Int) : Dt H (.int i) (.int i)
  | str (x : Str) : Dt H (.str x) (.str x)
  | lst {a : Addr} {xs : List V} {ds : List PyData} : H a = some (.lst xs) → DtAll H xs ds → Dt H (.ref a) (.list ds)
  | tup {a : Addr} {xs : List V} {ds : List PyData} : H a = some (.tup xs) → DtAll H xs ds → Dt H (.ref a) (.tuple ds)
inductive DtAll (H : Hp) : List V → List PyData → Prop
  | nil : DtAll H [] []
  | cons {v : V} {vs : List V} {d : PyData} {ds : List PyData} : Dt H v d → DtAll H vs ds → DtAll H (v :: vs) (d :: ds)
end
mutual
theorem Dt.same {H H' : Hp} (s : Same H H') : ∀ (d : PyData) (v : V), Dt H v d → Dt H' v d
  | .none, _, h => by cases h; exact .non
  | .bool b, _, h => by cases h; exact .bl b
  | .int i, _, h => by cases h; exact .int i
  | .str z, _, h => by cases h; exact .str z
  | .list ds, _, h => by cases h with | lst h1 h2 => exact .lst (s _ _ h1) (DtAll.same s ds _ h2)
  | .tuple ds, _, h => by cases h with | tup h1 h2 => exact .tup (s _ _ h1) (DtAll.same s ds _ h2)
  | .dict _, _, h => by cases h
theorem DtAll.same {H H' : Hp} (s : Same H H') : ∀ (ds : List PyData) (vs : List V), DtAll H vs ds → DtAll H' vs ds
  | [], _, h => by cases h; exact .nil
  | d :: ds, _, h => by cases h with | cons h1 h2 => exact .cons (Dt.same s d _ h1) (DtAll.same s ds _ h2)
end
mutual
theorem Dt.dp {K : PySem.W.Frag} {H : Hp} : ∀ (d : PyData) (v : V), Dt H v d → Dp K H v d
  | .none, _, h => by cases h; exact .non
  | .bool b, _, h => by cases h; exact .bl b
  | .int i, _, h => by cases h; exact .int i
  | .str z, _, h => by cases h; exact .str z
  | .list ds, _, h => by cases h with | lst h1 h2 => exact .lst (.of h1) (DtAll.dp ds _ h2)
  | .tuple ds, _, h => by cases h with | tup h1 h2 => exact .tup (.of h1) (DtAll.dp ds _ h2)
  | .dict _, _, h => by cases h
theorem DtAll.dp {K : PySem.W.Frag} {H : Hp} : ∀ (ds : List PyData) (vs : List V), DtAll H vs ds → DpAll K H vs ds
  | [], _, h => by cases h; exact .nil
  | d :: ds, _, h => by cases h with | cons h1 h2 => exact .cons (Dt.dp d _ h1) (DtAll.dp ds _ h2)
end
theorem dtAll_len {H : Hp} : ∀ {xs : List V} {ds : List PyData}, DtAll H xs ds → xs.length = ds.length
  | _, _, .nil => rfl
  | _, _, .cons _ t => by rw [List.length_cons, List.length_cons, dtAll_len t]
theorem dtAll_get {H : Hp} : ∀ {xs : List V} {ds : List PyData} {i : Nat}, DtAll H xs ds → i < ds.length → ∃ x d, xs[i]? = some x ∧ ds[i]? = some d ∧ Dt H x d
  | _, _, _, .nil, h => absurd h (Nat.not_lt_zero _)
  | _, _, 0, .cons a _, _ => ⟨_, _, rfl, rfl, a⟩
  | _, _, i + 1, .cons _ t, h => by
    obtain ⟨x, d, e1, e2, q⟩ := dtAll_get (i := i) t (Nat.lt_of_succ_lt_succ h)
    exact ⟨x, d, e1, e2, q⟩
theorem dt_ints {H : Hp} : ∀ ns : List Int, DtAll H (ns.map V.int) (ns.map PyData.int)
  | [] => .nil
  | n :: r => .cons (.int n) (dt_ints r)
theorem dt_IL {H : Hp} {p : Addr} {ns : List Int} (h : H p = some (IL ns)) : Dt H (.ref p) (.list (ns.map PyData.int)) := .lst h (dt_ints ns)
/-! ### isinstance of data -/
def tn : PyData → String
  | .none => "NoneType"
  | .bool _ => "bool"
  | .int _ => "int"
  | .str _ => "str"
  | .list _ => "list"
  | .tuple _ => "tuple"
  | .dict _ => "dict"
def tyO : Option HO → Option String
  | some (.lst _) => some "list"
  | some (.tup _) => some "tuple"
  | _ => none
def tyH (H : Hp) : V → Option String
  | .non => some "NoneType"
  | .bl _ => some "bool"
  | .int _ => some "int"
  | .str _ => some "str"
  | .ref a => tyO (H a)
  | _ => none
theorem tyH_non {H : Hp} : tyH H .non = some "NoneType" := rfl
theorem tyH_bl {H : Hp} {b : Bool} : tyH H (.bl b) = some "bool" := rfl
theorem tyH_int {H : Hp} {i : Int} : tyH H (.int i) = some "int" := rfl
theorem tyH_str {H : Hp} {x : Str} : tyH H (.str x) = some "str" := rfl
theorem tyH_ref {H : Hp} {a : Addr} : tyH H (.ref a) = tyO (H a) := rfl
theorem tyO_lst {xs : List V} : tyO (some (.lst xs)) = some "list" := rfl
theorem tyO_IL {xs : List Int} : tyO (some (IL xs)) = some "list" := rfl
theorem tyO_tup {xs : List V} : tyO (some (.tup xs)) = some "tuple" := rfl
theorem Dt.ty {H : Hp} {x : V} {d : PyData} (h : Dt H x d) : tyH H x = some (tn d) := by
  cases h with
  | non => rfl
  | bl b => rfl
  | int i => rfl
  | str z => rfl
  | lst h _ => rw [tyH_ref, h]; rfl
  | tup h _ => rw [tyH_ref, h]; rfl
theorem tyO_cases {o : Option HO} {t : String} (h : tyO o = some t) : (t = "list" ∧ ∃ xs, o = some (.lst xs)) ∨ (t = "tuple" ∧ ∃ xs, o = some (.tup xs)) := by
  cases o with
  | none => cases h
  | some u =>
    cases u with
    | lst xs => cases h; exact .inl ⟨rfl, xs, rfl⟩
    | tup xs => cases h; exact .inr ⟨rfl, xs, rfl⟩
    | _ => cases h
/-- isinstance(x, T), both built-in, by the name of x's type -/
def isB (a T : String) : Bool := a == T || (a == "bool" && T == "int")
def tyNames : List String := ["NoneType", "bool", "int", "str", "list", "tuple"]
def clNames : List String := ["bool", "int", "str", "list", "tuple"]
def isCl (T : String) : Bool := clNames.contains T
theorem isB_all : (tyNames.all fun a => clNames.all fun b => decide (kitB a b = some (isB a b))) = true := by decide +kernel
theorem isB_kit {a b : String} (h1 : a ∈ tyNames) (h2 : isCl b = true) : kitB a b = some (isB a b) := by
  have h := isB_all
  rw [List.all_eq_true] at h
  have h' := h a h1
  rw [List.all_eq_true] at h'
  exact of_decide_eq_true (h' b (List.contains_iff_mem.mp h2))
theorem tyH_x {K : PySem.W.Frag} {H : Hp} {x : V} {t : String} (h : tyH H x = some t) : TyX K H x (.type t) ∧ t ∈ tyNames := by
  cases x with
  | non => cases h; exact ⟨.base .non, by decide⟩
  | bl b => cases h; exact ⟨.base (.bl b), by decide⟩
  | int i => cases h; exact ⟨.base (.int i), by decide⟩
  | str z => cases h; exact ⟨.base (.str z), by decide⟩
  | ref a =>
    rcases tyO_cases h with ⟨rfl, xs, e⟩ | ⟨rfl, xs, e⟩
    · exact ⟨.base (.lst e), by decide⟩
    · exact ⟨.base (.tup e), by decide⟩
  | _ => cases h
def rIsiD : List V → Hp → VK → Prop := fun xs H Q => ∃ x T, xs = [x, .ty T] ∧ ∃ t, tyH H x = some t ∧ isCl T = true ∧ Q (.bl (isB t T)) H
theorem call_isiD {X : Cx} : CallR X (.builtin "isinstance") rIsiD := CallR.imp call_isi fun xs H Q h => by
  obtain ⟨x, T, rfl, t, ty, h2, q⟩ := h
  obtain ⟨h0, h1⟩ := tyH_x (K := X.K) ty
  exact ⟨x, .ty T, .type t, .type T, isB t T, rfl, .ty T, h0, kit_ty (isB_kit h1 h2), q⟩
theorem cl_bool : isCl "bool" = true := by decide
theorem cl_int : isCl "int" = true := by decide
theorem cl_str : isCl "str" = true := by decide
theorem cl_list : isCl "list" = true := by decide
theorem cl_tuple : isCl "tuple" = true := by decide
theorem isB_NoneType_bool : isB "NoneType" "bool" = false := by decide
theorem isB_NoneType_int : isB "NoneType" "int" = false := by decide
theorem isB_NoneType_str : isB "NoneType" "str" = false := by decide
theorem isB_NoneType_list : isB "NoneType" "list" = false := by decide
theorem isB_NoneType_tuple : isB "NoneType" "tuple" = false := by decide
theorem isB_bool_bool : isB "bool" "bool" = true := by decide
theorem isB_bool_int : isB "bool" "int" = true := by decide
theorem isB_bool_str : isB "bool" "str" = false := by decide
theorem isB_bool_list : isB "bool" "list" = false := by decide
theorem isB_bool_tuple : isB "bool" "tuple" = false := by decide
theorem isB_int_bool : isB "int" "bool" = false := by decide
theorem isB_int_int : isB "int" "int" = true := by decide
theorem isB_int_str : isB "int" "str" = false := by decide
theorem isB_int_list : isB "int" "list" = false := by decide
theorem isB_int_tuple : isB "int" "tuple" = false := by decide
theorem isB_str_bool : isB "str" "bool" = false := by decide
theorem isB_str_int : isB "str" "int" = false := by decide
theorem isB_str_str : isB "str" "str" = true := by decide
theorem isB_str_list : isB "str" "list" = false := by decide
theorem isB_str_tuple : isB "str" "tuple" = false := by decide
theorem isB_list_bool : isB "list" "bool" = false := by decide
theorem isB_list_int : isB "list" "int" = false := by decide
theorem isB_list_str : isB "list" "str" = false := by decide
theorem isB_list_list : isB "list" "list" = true := by decide
theorem isB_list_tuple : isB "list" "tuple" = false := by decide
theorem isB_tuple_bool : isB "tuple" "bool" = false := by decide
theorem isB_tuple_int : isB "tuple" "int" = false := by decide
theorem isB_tuple_str : isB "tuple" "str" = false := by decide
theorem isB_tuple_list : isB "tuple" "list" = false := by decide
theorem isB_tuple_tuple : isB "tuple" "tuple" = true := by decide
theorem scal_nn : scal .non .non = true := rfl
theorem scal_ii {a b : Int} : scal (.int a) (.int b) = true := rfl
theorem scal_bb {a b : Bool} : scal (.bl a) (.bl b) = true := rfl
theorem scal_ss {a b : Str} : scal (.str a) (.str b) = true := rfl
theorem scal_is {a : Int} {b : Str} : scal (.int a) (.str b) = true := rfl
theorem scal_si {a : Int} {b : Str} : scal (.str b) (.int a) = true := rfl
/-! ### lists and tuples that are tracked: their items -/
def itO : Option HO → Option (List V)
  | some (.lst xs) => some xs
  | some (.tup xs) => some xs
  | _ => none
theorem itO_lst {xs : List V} : itO (some (.lst xs)) = some xs := rfl
theorem itO_tup {xs : List V} : itO (some (.tup xs)) = some xs := rfl
theorem itO_IL {ns : List Int} : itO (some (IL ns)) = some (ns.map V.int) := rfl
theorem itO_cases {o : Option HO} {xs : List V} (h : itO o = some xs) : o = some (.lst xs) ∨ o = some (.tup xs) := by
  cases o with
  | none => cases h
  | some u =>
    cases u with
    | lst xs => cases h; exact .inl rfl
    | tup xs => cases h; exact .inr rfl
    | _ => cases h
def rLenQ : List V → Hp → VK → Prop := fun xs H Q => ∃ p ys, xs = [.ref p] ∧ itO (H p) = some ys ∧ Q (.int (ys.length : Int)) H
theorem call_lenQ {X : Cx} : CallR X (.builtin "len") rLenQ := CallR.imp call_len_seq fun xs H Q h => by
  obtain ⟨p, ys, e, h1, q⟩ := h
  rcases itO_cases h1 with h1 | h1
  · exact ⟨p, _, e, .inl (.of h1), q⟩
  · exact ⟨p, _, e, .inr (.of h1), q⟩
def rLenB : List V → Hp → VK → Prop := fun xs H Q => ∃ p ys, xs = [.ref p] ∧ itO (H p) = some ys ∧ (ys.length ≤ 16777216 → Q (.int (ys.length : Int)) H)
theorem call_lenB {X : Cx} : CallR X (.builtin "len") rLenB := fun pins s σ H xs us Q I r h => by
  obtain ⟨p, ys, e, h1, q⟩ := h
  refine call_lenQ pins s σ H xs us Q I r ⟨p, ys, e, h1, q ?_⟩
  rcases itO_cases h1 with h1 | h1
  · obtain ⟨_, _, _, z⟩ := I.list (.of h1)
    rw [sizeLine_eq] at z
    exact z
  · obtain ⟨_, _, _, z⟩ := I.tuple (.of h1)
    rw [sizeLine_eq] at z
    exact z
def rIxD : R2 := fun x y H Q => ∃ p xs i v, x = .ref p ∧ y = .int i ∧ itO (H p) = some xs ∧ atI xs i = some v ∧ Q v H
theorem ix_seqD {X : Cx} : IxR X rIxD := IxR.imp (ix_list.or ix_tup) fun x y H Q h => by
  obtain ⟨p, xs, i, v, e1, e2, h1, h2, q⟩ := h
  rcases itO_cases h1 with h1 | h1
  · exact .inl ⟨p, _, i, _, e1, e2, .of h1, h2, q⟩
  · exact .inr ⟨p, _, i, _, e1, e2, .of h1, h2, q⟩
/-- data that is told the same twice -/
def spSame (n : Nat) : Sp := fun vs H Q _ => ∃ (x y : V) (d : PyData), vs = [x, y] ∧ Dt H x d ∧ Dt H y d ∧ d.depth < n ∧ SeqAt.shaped d = true ∧ Q (.bl true) H
theorem depthAll_get : ∀ {ds : List PyData} {i : Nat} {d : PyData}, ds[i]? = some d → d.depth ≤ PyData.depthAll ds
  | [], _, _, h => by simp at h
  | a :: r, 0, d, h => by
    have e : a = d := Option.some.inj h
    subst e
    simp only [PyData.depthAll]
    omega
  | a :: r, i + 1, d, h => by
    have q := depthAll_get (ds := r) (i := i) (d := d) h
    simp only [PyData.depthAll]
    omega
theorem canLayAll_get : ∀ {ds : List PyData} {i : Nat} {d : PyData}, ds[i]? = some d → PyData.canLayAll0 ds = true → d.canLay0 = true
  | [], _, _, h, _ => by simp at h
  | a :: r, 0, d, h, c => by
    have e : a = d := Option.some.inj h
    subst e
    rw [PyData.canLayAll0, Bool.and_eq_true] at c
    exact c.1
  | a :: r, i + 1, d, h, c => by
    rw [PyData.canLayAll0, Bool.and_eq_true] at c
    exact canLayAll_get (ds := r) (i := i) (d := d) h c.2
theorem shaped_item {ds : List PyData} {i : Nat} {d : PyData} (h : ds[i]? = some d) (c : PyData.canLayAll0 ds = true) (k : PyData.depthAll ds + 1 ≤ 64) : SeqAt.shaped d = true := by
  unfold SeqAt.shaped
  rw [Bool.and_eq_true]
  refine ⟨canLayAll_get h c, decide_eq_true ?_⟩
  have := depthAll_get h
  omega
theorem none_fn {P : Program} {w : World} {K : PySem.W.Frag} {mg : Str → Option Value} {base : Heap} {CX : CXT} {f : Addr} {fd : FuncData} {ps : List Str} {sp : Sp} {k : Nat} (no : ∀ vs H Q E, ¬ sp vs H Q E) : FnOk P w K mg base CX k f fd ps sp :=
  ⟨fun vs H Q E h => absurd h (no vs H Q E), fun A outer s H args us vs Q E _ _ _ _ h => absurd h (no vs H Q E)⟩
end Dw

namespace Dw
open PySem PySem.Spec PyProof.Rows L2
/-! ### the CRC, on natural numbers -/
/-- one bit -/
def stepB (n b : Nat) : Nat := (2 * n % 65536) ^^^ (if n / 32768 % 2 = b then 0 else 4129)
/-- one byte, bit by bit from the highest on -/
def byteB (n v : Nat) : Nat := (List.range 8).foldl (fun m k => stepB m (v / 2 ^ (7 - k) % 2)) n
/-- one byte, at once -/
def byteP (n v : Nat) : Nat :=
  let t := (n / 256) ^^^ v
  let u := t ^^^ (t / 16)
  ((((n * 256) ^^^ (u * 4096)) ^^^ (u * 32)) ^^^ u) % 65536
def crcN (vs : List Nat) : Nat := vs.foldl byteP 65535
theorem xor_lt {a b k : Nat} (h1 : a < 2 ^ k) (h2 : b < 2 ^ k) : a ^^^ b < 2 ^ k := Nat.xor_lt_two_pow h1 h2
theorem stepB_lt (n b : Nat) : stepB n b < 65536 := by
  unfold stepB
  refine xor_lt (k := 16) ?_ ?_
  · exact Nat.mod_lt _ (by decide)
  · split <;> decide
theorem byteP_lt (n v : Nat) : byteP n v < 65536 := Nat.mod_lt _ (by decide)
theorem mul2 (a b : Nat) : 2 * (a ^^^ b) = (2 * a) ^^^ (2 * b) := by
  have h := @Nat.shiftLeft_xor_distrib 1 a b
  simp only [Nat.shiftLeft_eq, Nat.pow_one] at h
  rw [Nat.mul_comm 2, Nat.mul_comm 2, Nat.mul_comm 2]
  exact h
theorem mulp (k a b : Nat) : (a ^^^ b) * 2 ^ k = (a * 2 ^ k) ^^^ (b * 2 ^ k) := by
  have h := @Nat.shiftLeft_xor_distrib k a b
  simp only [Nat.shiftLeft_eq] at h
  exact h
theorem divp (k a b : Nat) : (a ^^^ b) / 2 ^ k = (a / 2 ^ k) ^^^ (b / 2 ^ k) := by
  have h := @Nat.shiftRight_xor_distrib k a b
  simp only [Nat.shiftRight_eq_div_pow] at h
  exact h
theorem modp (k a b : Nat) : (a ^^^ b) % 2 ^ k = (a % 2 ^ k) ^^^ (b % 2 ^ k) := Nat.xor_mod_two_pow
theorem xor4 (a b c d : Nat) : (a ^^^ b) ^^^ (c ^^^ d) = (a ^^^ c) ^^^ (b ^^^ d) := by
  rw [Nat.xor_assoc, ← Nat.xor_assoc b c d, Nat.xor_comm b c, Nat.xor_assoc c b d, ← Nat.xor_assoc]
theorem bit_cases (n : Nat) : n % 2 = 0 ∨ n % 2 = 1 := by omega
theorem stepB_xor (n m b c : Nat) (hb : b < 2) (hc : c < 2) : stepB (n ^^^ m) (b ^^^ c) = stepB n b ^^^ stepB m c := by
  unfold stepB
  have e1 : 2 * (n ^^^ m) % 65536 = (2 * n % 65536) ^^^ (2 * m % 65536) := by rw [mul2]; exact modp 16 _ _
  have e2 : (n ^^^ m) / 32768 % 2 = (n / 32768 % 2) ^^^ (m / 32768 % 2) := by
    have q := divp 15 n m
    have q2 := modp 1 (n / 32768) (m / 32768)
    simp only [Nat.pow_one] at q2
    have : (n ^^^ m) / 32768 = (n / 32768) ^^^ (m / 32768) := q
    rw [this, q2]
  rw [e1, e2, xor4]
  congr 1
  have k1 : b = 0 ∨ b = 1 := by omega
  have k2 : c = 0 ∨ c = 1 := by omega
  rcases bit_cases (n / 32768) with h1 | h1 <;> rcases bit_cases (m / 32768) with h2 | h2 <;> rcases k1 with rfl | rfl <;> rcases k2 with rfl | rfl <;> rw [h1, h2] <;> decide
theorem bit_xor (v u k : Nat) : (v ^^^ u) / 2 ^ k % 2 = (v / 2 ^ k % 2) ^^^ (u / 2 ^ k % 2) := by
  rw [divp]
  have q2 := modp 1 (v / 2 ^ k) (u / 2 ^ k)
  simp only [Nat.pow_one] at q2
  exact q2
theorem fold_xor (v u : Nat) : ∀ (l : List Nat) (n m : Nat), l.foldl (fun m k => stepB m ((v ^^^ u) / 2 ^ (7 - k) % 2)) (n ^^^ m) = l.foldl (fun m k => stepB m (v / 2 ^ (7 - k) % 2)) n ^^^ l.foldl (fun m k => stepB m (u / 2 ^ (7 - k) % 2)) m
  | [], _, _ => rfl
  | k :: r, n, m => by
    rw [List.foldl_cons, List.foldl_cons, List.foldl_cons, bit_xor, stepB_xor _ _ _ _ (Nat.mod_lt _ (by decide)) (Nat.mod_lt _ (by decide))]
    exact fold_xor v u r _ _
theorem byteB_xor (n m v u : Nat) : byteB (n ^^^ m) (v ^^^ u) = byteB n v ^^^ byteB m u := fold_xor v u _ n m
theorem byteP_xor (n m v u : Nat) : byteP (n ^^^ m) (v ^^^ u) = byteP n v ^^^ byteP m u := by
  have d8 := divp 8 n m
  have e0 : (n ^^^ m) / 256 ^^^ (v ^^^ u) = (n / 256 ^^^ v) ^^^ (m / 256 ^^^ u) := by
    have : (n ^^^ m) / 256 = (n / 256) ^^^ (m / 256) := d8
    rw [this, xor4]
  unfold byteP
  simp only
  rw [e0]
  generalize n / 256 ^^^ v = t
  generalize m / 256 ^^^ u = s
  have d4 : (t ^^^ s) / 16 = (t / 16) ^^^ (s / 16) := divp 4 t s
  rw [d4, xor4 t s]
  generalize t ^^^ t / 16 = a
  generalize s ^^^ s / 16 = b
  have m8 : (n ^^^ m) * 256 = (n * 256) ^^^ (m * 256) := mulp 8 n m
  have m12 : (a ^^^ b) * 4096 = (a * 4096) ^^^ (b * 4096) := mulp 12 a b
  have m5 : (a ^^^ b) * 32 = (a * 32) ^^^ (b * 32) := mulp 5 a b
  have md : ∀ x y : Nat, (x ^^^ y) % 65536 = (x % 65536) ^^^ (y % 65536) := modp 16
  rw [m8, m12, m5, ← md, xor4 (n * 256), xor4 (n * 256 ^^^ a * 4096), xor4 ((n * 256 ^^^ a * 4096) ^^^ a * 32)]
theorem tab_hi : ((List.range 256).all fun h => byteB (h * 256) 0 == byteP (h * 256) 0) = true := by decide +kernel
theorem tab_lo : ((List.range 256).all fun h => byteB h 0 == byteP h 0) = true := by decide +kernel
theorem tab_v : ((List.range 256).all fun h => byteB 0 h == byteP 0 h) = true := by decide +kernel
theorem of_tab {f g : Nat → Nat} {n k : Nat} (h : ((List.range n).all fun h => f h == g h) = true) (hk : k < n) : f k = g k := by
  rw [List.all_eq_true] at h
  have := h k (List.mem_range.mpr hk)
  exact eq_of_beq this
theorem hi_lo {n : Nat} : n = (n / 256 * 256) ^^^ (n % 256) := by
  apply Nat.eq_of_testBit_eq
  intro i
  have e1 : n / 256 * 256 = (n >>> 8) <<< 8 := by rw [Nat.shiftLeft_eq, Nat.shiftRight_eq_div_pow]
  have e2 : n % 256 = n % 2 ^ 8 := rfl
  rw [Nat.testBit_xor, e1, e2, Nat.testBit_mod_two_pow, Nat.testBit_shiftLeft, Nat.testBit_shiftRight]
  by_cases h : i < 8
  · have : ¬ i ≥ 8 := by omega
    simp [h, this]
  · have : i ≥ 8 := by omega
    have e : 8 + (i - 8) = i := by omega
    simp [h, this, e]
theorem byte_eq {n v : Nat} (hn : n < 65536) (hv : v < 256) : byteB n v = byteP n v := by
  have e := @hi_lo n
  have z : v = 0 ^^^ v := by rw [Nat.zero_xor]
  have z0 : n = n ^^^ 0 := by rw [Nat.xor_zero]
  have a1 : byteB n v = byteB n 0 ^^^ byteB 0 v := by
    have := byteB_xor n 0 0 v
    rw [Nat.xor_zero, Nat.zero_xor] at this
    exact this
  have a2 : byteP n v = byteP n 0 ^^^ byteP 0 v := by
    have := byteP_xor n 0 0 v
    rw [Nat.xor_zero, Nat.zero_xor] at this
    exact this
  have b1 : byteB n 0 = byteB (n / 256 * 256) 0 ^^^ byteB (n % 256) 0 := by
    have := byteB_xor (n / 256 * 256) (n % 256) 0 0
    rw [← e] at this
    exact this
  have b2 : byteP n 0 = byteP (n / 256 * 256) 0 ^^^ byteP (n % 256) 0 := by
    have := byteP_xor (n / 256 * 256) (n % 256) 0 0
    rw [← e] at this
    exact this
  rw [a1, a2, b1, b2, of_tab (f := fun h => byteB (h * 256) 0) (g := fun h => byteP (h * 256) 0) tab_hi (show n / 256 < 256 by omega), of_tab (f := fun h => byteB h 0) (g := fun h => byteP h 0) tab_lo (show n % 256 < 256 by omega), of_tab (f := fun h => byteB 0 h) (g := fun h => byteP 0 h) tab_v hv]
/-! ### whole numbers as natural ones -/
theorem xorN (a b : Nat) : Builtin.bitXor (a : Int) (b : Int) = ((a ^^^ b : Nat) : Int) := by
  rw [Bits.bitXor_pp (Int.natCast_nonneg a) (Int.natCast_nonneg b), Int.toNat_natCast, Int.toNat_natCast]
theorem orN (a b : Nat) : Builtin.bitOr (a : Int) (b : Int) = ((a ||| b : Nat) : Int) := by
  rw [Bits.bitOr_pp (Int.natCast_nonneg a) (Int.natCast_nonneg b), Int.toNat_natCast, Int.toNat_natCast]
theorem andN (a b : Nat) : Builtin.bitAnd (a : Int) (b : Int) = ((a &&& b : Nat) : Int) := by
  rw [bitAnd_pp (Int.natCast_nonneg a) (Int.natCast_nonneg b), Int.toNat_natCast, Int.toNat_natCast]
theorem and65535 (a : Nat) : Builtin.bitAnd (a : Int) 65535 = ((a % 65536 : Nat) : Int) := by
  have h := Bits.bitAnd_mask 16 (Int.natCast_nonneg a)
  have e : (2 : Int) ^ 16 - 1 = 65535 := by decide
  rw [e] at h
  rw [h]
  have e2 : (2 : Int) ^ 16 = 65536 := by decide
  rw [e2]
  omega
theorem and1 (a : Nat) : Builtin.bitAnd (a : Int) 1 = ((a % 2 : Nat) : Int) := by
  have h := Bits.bitAnd_mask 1 (Int.natCast_nonneg a)
  have e : (2 : Int) ^ 1 - 1 = 1 := by decide
  rw [e] at h
  rw [h]
  have e2 : (2 : Int) ^ 1 = 2 := by decide
  rw [e2]
  omega
theorem and255 (a : Nat) : Builtin.bitAnd (a : Int) 255 = ((a % 256 : Nat) : Int) := by
  have h := Bits.bitAnd_mask 8 (Int.natCast_nonneg a)
  have e : (2 : Int) ^ 8 - 1 = 255 := by decide
  rw [e] at h
  rw [h]
  have e2 : (2 : Int) ^ 8 = 256 := by decide
  rw [e2]
  omega
/-- (a | b) - (a & b) -/
theorem or_sub_and (a b : Nat) : Builtin.bitOr (a : Int) (b : Int) - Builtin.bitAnd (a : Int) (b : Int) = ((a ^^^ b : Nat) : Int) := by
  rw [orN, andN]
  have h1 := Bits.nat_xor_add_and a b
  have h2 := nat_or_add_and a b
  omega
/-- a list of bytes -/
def Bytes (ns : List Int) : Prop := ∀ n ∈ ns, 0 ≤ n ∧ n < 256
def crcZ (ns : List Int) : Int := (crcN (ns.map Int.toNat) : Nat)
theorem crcN_lt : ∀ vs : List Nat, crcN vs < 65536 := by
  intro vs
  unfold crcN
  have : ∀ (l : List Nat) (n : Nat), n < 65536 → l.foldl byteP n < 65536 := by
    intro l
    induction l with
    | nil => intro n h; exact h
    | cons a r ih => intro n _; exact ih _ (byteP_lt _ _)
  exact this vs 65535 (by decide)
theorem crcZ_nn (ns : List Int) : 0 ≤ crcZ ns ∧ crcZ ns < 65536 := by
  have := crcN_lt (ns.map Int.toNat)
  unfold crcZ
  omega
theorem take_more {α : Type} : ∀ {l : List α} {i : Nat} {x : α}, l[i]? = some x → l.take (i + 1) = l.take i ++ [x]
  | [], i, x, h => by simp at h
  | a :: l, 0, x, h => by
    have e : a = x := Option.some.inj h
    subst e
    rfl
  | a :: l, i + 1, x, h => by
    have ih := take_more (l := l) (i := i) (x := x) h
    show a :: l.take (i + 1) = a :: l.take i ++ [x]
    rw [ih]
    rfl
theorem crcN_more {ns : List Int} {i : Nat} {v : Nat} (h : ns[i]? = some (v : Int)) : crcN ((ns.take (i + 1)).map Int.toNat) = byteP (crcN ((ns.take i).map Int.toNat)) v := by
  unfold crcN
  rw [take_more h, List.map_append, List.foldl_append]
  simp
theorem ints_at {ns : List Int} {i : Nat} {v : V} (h : (ns.map V.int)[i]? = some v) : ∃ z : Int, v = V.int z ∧ ns[i]? = some z := by
  rw [List.getElem?_map] at h
  cases e : ns[i]? with
  | none => rw [e] at h; cases h
  | some z => rw [e] at h; exact ⟨z, (Option.some.inj h).symm, rfl⟩
theorem bytes_at {ns : List Int} {i : Nat} {z : Int} (hb : Bytes ns) (h : ns[i]? = some z) : ∃ v : Nat, z = (v : Int) ∧ v < 256 := by
  have := hb z (List.mem_of_getElem? h)
  exact ⟨z.toNat, by omega, by omega⟩
def spCrc : Sp := fun vs H Q _ => ∃ (a : Addr) (ns : List Int), vs = [.ref a] ∧ H a = some (IL ns) ∧ Bytes ns ∧ Q (.int (crcZ ns)) H
end Dw
namespace Dw
open PySem PySem.Spec PyProof.Rows L2
theorem zdiv (a k : Nat) : (a : Int) / 2 ^ k = ((a / 2 ^ k : Nat) : Int) := by
  rw [two_pow_cast]
  exact (Int.natCast_ediv _ _).symm
theorem zmul (a k : Nat) : (a : Int) * 2 ^ k = ((a * 2 ^ k : Nat) : Int) := by
  rw [two_pow_cast]
  exact (Int.natCast_mul _ _).symm
def takenN (n v : Nat) : Nat := ((n / 256) ^^^ v) ^^^ (((n / 256) ^^^ v) / 16)
theorem takenZ (n v : Nat) : Builtin.bitXor (Builtin.bitXor ((n : Int) / 256) (v : Int)) (Builtin.bitXor ((n : Int) / 256) (v : Int) / 16) = ((takenN n v : Nat) : Int) := by
  have e1 : (n : Int) / 256 = ((n / 256 : Nat) : Int) := zdiv n 8
  rw [e1, xorN]
  have e2 : ((n / 256 ^^^ v : Nat) : Int) / 16 = (((n / 256 ^^^ v) / 16 : Nat) : Int) := zdiv _ 4
  rw [e2, xorN]
  rfl
theorem takenN_lt {n v : Nat} (hn : n < 65536) (hv : v < 256) : takenN n v < 256 := by
  unfold takenN
  have h1 : n / 256 ^^^ v < 2 ^ 8 := xor_lt (by omega) hv
  exact xor_lt (k := 8) h1 (by omega)
/-- the program's step on whole numbers -/
theorem stepZ (n v : Nat) : Builtin.bitAnd (Builtin.bitXor (Builtin.bitXor (Builtin.bitXor ((n : Int) * 256) ((takenN n v : Int) * 4096)) ((takenN n v : Int) * 32)) (takenN n v : Int)) 65535 = ((byteP n v : Nat) : Int) := by
  have e1 : (n : Int) * 256 = ((n * 256 : Nat) : Int) := zmul n 8
  have e2 : (takenN n v : Int) * 4096 = ((takenN n v * 4096 : Nat) : Int) := zmul _ 12
  have e3 : (takenN n v : Int) * 32 = ((takenN n v * 32 : Nat) : Int) := zmul _ 5
  rw [e1, e2, e3, xorN, xorN, xorN, and65535]
  rfl
end Dw
namespace Dw
open PySem PySem.Spec PyProof.Rows L2
theorem SameB.none {p q r : Addr} {H H' : Hp} (s : SameB p H H') (hP : Pool H' p q) (h : H' r = none) : H r = none := by
  cases e : H r with
  | none => rfl
  | some o =>
    by_cases q : r = p
    · subst q
      obtain ⟨u, hu⟩ := hP.there
      rw [hu] at h; cases h
    · rw [s r o q e] at h; cases h
theorem Pool.upd {H : Hp} {p q r : Addr} {o : HO} (h : Pool H p q) (n : H r = none) : Pool (upd H r o) p q := h.same (same_new n o)
theorem Pool.ups {H : Hp} {p q r : Addr} {o : HO} (h : Pool H p q) (n : p ≠ r) (n2 : q ≠ r) : Pool (L2.upd H r o) p q := by
  obtain ⟨ns, a, b, c, d, h1, h2, h3⟩ := h
  exact ⟨ns, a, b, c, d, by rw [upd_ne n]; exact h1, by rw [upd_ne n2]; exact h2, h3⟩
/-- [e for k in range(..)] of numbers that are drawn -/
theorem lc_pool {p q : Addr} {R : Int → Prop} {lo : Int} {n j : Nat} {te : TE} {vs : List Nat} {σ : L2.St} {H1 : Hp} {D : Addr} {Qd : Hp → Prop} (hn : n ≤ 16777215) (hP : Pool H1 p q) (hD : H1 D = none) (hw : ∀ v, wipe ((wipe σ vs).set j v) vs = wipe σ vs)
    (hte : ∀ i H3 (Q' : VK), i < n → Pool H3 p q → SameB p H1 H3 → (∀ v H4, R v → Pool H4 p q → SameB p H3 H4 → Q' (.int v) H4) → te ((wipe σ vs).set j (some (.int (lo + (i : Nat))))) H3 Q')
    (hd : ∀ ns H', ns.length = n → (∀ v ∈ ns, R v) → Pool H' p q → SameB p H1 H' → H' D = some (IL ns) → Qd H') :
    ∃ W : Nat → Nat → Hp → Prop, (∃ m, W 0 m (L2.upd H1 D (.lst []))) ∧ ∀ i m H, W i m H →
      ((Itr lo n).stop i H ∧ Qd H) ∨ ((Itr lo n).go i H ∧ ∃ Nx : Hp → Prop, (∀ H', Nx H' → ∃ m', m' < m ∧ W (i + 1) m' H') ∧ ∀ x H', (Itr lo n).yld i H x H' → gName j x (wipe σ vs) H' fun σ2 H2 => wipe σ2 vs = wipe σ vs ∧ tYes σ2 H2 fun b H3 =>
        if b = true then te σ2 H3 fun y H4 => ∃ acc, H4 D = some (.lst acc) ∧ acc.length < sizeLine ∧ Nx (L2.upd H4 D (.lst (acc ++ [y]))) else Nx H3) := by
  have hDp : p ≠ D := hP.ne hD
  have hDq : q ≠ D := hP.ne2 hD
  refine lc_range (lo := lo) (n := n) (fun i H' => Pool H' p q ∧ SameB p H1 H' ∧ ∃ ns : List Int, H' D = some (IL ns) ∧ ns.length = i ∧ ∀ v ∈ ns, R v) ⟨hP.upd hD, Same.b (same_new hD _), [], upd_same, rfl, fun v h => by cases h⟩ ?_ ?_
  · intro i H hi h
    obtain ⟨h1, h2, ns, h3, h4, h5⟩ := h
    refine ⟨hw _, ?_⟩
    simp only [tYes, if_true]
    refine hte i H _ hi h1 h2 fun v H4 hR hP4 hs => ?_
    have e : H4 D = some (IL ns) := hs D _ hDp.symm h3
    have ez : ns.map V.int ++ [V.int v] = (ns ++ [v]).map V.int := by rw [List.map_append]; rfl
    refine ⟨ns.map V.int, e, by rw [List.length_map, h4]; exact line_lt (by omega), hP4.ups hDp hDq, ?_, ns ++ [v], ?_, by rw [List.length_append, h4]; rfl, ?_⟩
    · intro b o nb hb
      rw [upd_ne (ne_of_none hb hD)]
      exact hs b o nb (h2 b o nb hb)
    · rw [upd_same, ez]
      rfl
    · intro x hx
      rcases List.mem_append.mp hx with hx | hx
      · exact h5 x hx
      · rw [List.mem_singleton.mp hx]; exact hR
  · intro H h
    obtain ⟨h1, h2, ns, h3, h4, h5⟩ := h
    exact hd ns H h4 h5 h1 h2 h3
/-- drawn bytes: a new list -/
def spSomeBytes : Sp := fun vs H Q _ => ∃ (p q : Addr) (m : Int), vs = [.ref p, .int m] ∧ Pool H p q ∧ 0 ≤ m ∧ m < 100000 ∧ ∀ r ns H', Pool H' p q → SameB p H H' → H r = none → H' r = some (IL ns) → Bytes ns → (ns.length : Int) ≤ m → Q (.ref r) H'
def spOr : Sp := fun vs H Q _ => ∃ a b : Nat, vs = [.int a, .int b] ∧ Q (.int ((a ^^^ b : Nat) : Int)) H
end Dw
namespace Dw
open PySem PySem.Spec PyProof.Rows L2
/-- the first k bits of a byte -/
def byteK (n v k : Nat) : Nat := (List.range k).foldl (fun m k => stepB m (v / 2 ^ (7 - k) % 2)) n
theorem byteK_succ (n v k : Nat) : byteK n v (k + 1) = stepB (byteK n v k) (v / 2 ^ (7 - k) % 2) := by
  unfold byteK
  rw [List.range_succ, List.foldl_append]
  rfl
theorem byteK_lt {n v : Nat} (hn : n < 65536) : ∀ k, byteK n v k < 65536
  | 0 => hn
  | k + 1 => by rw [byteK_succ]; exact stepB_lt _ _
theorem stepB_ne {n b : Nat} (h : n / 32768 % 2 ≠ b) : (2 * n % 65536) ^^^ 4129 = stepB n b := by
  unfold stepB
  rw [if_neg h]
theorem stepB_eq {n b : Nat} (h : n / 32768 % 2 = b) : 2 * n % 65536 = stepB n b := by
  unfold stepB
  rw [if_pos h, Nat.xor_zero]
end Dw
namespace Dw
open PySem PySem.Spec PyProof.Rows L2
theorem dep_int (i : Int) : (PyData.int i).depth < 8 := by simp only [PyData.depth]; decide
theorem sh_int (i : Int) : SeqAt.shaped (PyData.int i) = true := by
  unfold SeqAt.shaped
  simp only [PyData.depth, PyData.canLay0]
  rfl
theorem same_int {i : Int} {H : Hp} {Q : VK} {E : XK} (q : Q (.bl true) H) : spSame 8 [.int i, .int i] H Q E := ⟨_, _, .int i, rfl, .int i, .int i, dep_int i, sh_int i, q⟩
theorem dep_ints (ns : List Int) : (PyData.list (ns.map PyData.int)).depth < 8 := by
  have := depthAll_ints ns
  simp only [PyData.depth]
  omega
theorem same_IL {ns : List Int} {r u : Addr} {H : Hp} {Q : VK} {E : XK} (h1 : H r = some (IL ns)) (h2 : H u = some (IL ns)) (q : Q (.bl true) H) : spSame 8 [.ref r, .ref u] H Q E :=
  ⟨_, _, _, rfl, dt_IL h1, dt_IL h2, dep_ints ns, shaped_ints ns, q⟩
end Dw
namespace Dw
open PySem PySem.Spec PyProof.Rows L2
/-! ### bits -/
/-- the eight bits of a byte, the highest first -/
def bits8 (v : Nat) : List Int := [((v / 128 % 2 : Nat) : Int), ((v / 64 % 2 : Nat) : Int), ((v / 32 % 2 : Nat) : Int), ((v / 16 % 2 : Nat) : Int), ((v / 8 % 2 : Nat) : Int), ((v / 4 % 2 : Nat) : Int), ((v / 2 % 2 : Nat) : Int), ((v % 2 : Nat) : Int)]
def spByteBits : Sp := fun vs H Q _ => ∃ v : Nat, vs = [.int (v : Int)] ∧ v < 256 ∧ ∀ r H', Same H H' → H r = none → H' r = some (IL (bits8 v)) → Q (.ref r) H'
end Dw


namespace Dw
open PySem PySem.Spec PyProof.Rows L2
theorem Same.seqT {K : PySem.W.Frag} {H H' : Hp} {a : Addr} {xs : List V} (e : Same H H') (h : SqT K H a xs) : SqT K H' a xs := by
  rcases h with (h | ⟨o, h⟩) | h
  · exact .inl (.inl (e _ _ h))
  · exact .inl (.inr ⟨o, e _ _ h⟩)
  · exact .inr h
/-! ### comprehensions whose items are ints that hang on the place alone (with a test: F) -/
theorem lc_rangeI {lo : Int} {n : Nat} {f : Nat → Int} {j : Nat} {te : TE} {vs : List Nat} {σ : L2.St} {H1 : Hp} {D : Addr} {Qd : Hp → Prop} (hn : n ≤ 16777215) (hD : H1 D = none) (hw : ∀ v, wipe ((wipe σ vs).set j v) vs = wipe σ vs)
    (hte : ∀ i H3 (Q' : VK), i < n → Same H1 H3 → (∀ H4, Same H3 H4 → Q' (.int (f i)) H4) → te ((wipe σ vs).set j (some (.int (lo + (i : Nat))))) H3 Q')
    (hd : ∀ H', Same H1 H' → H' D = some (IL ((List.range n).map f)) → Qd H') :
    ∃ W : Nat → Nat → Hp → Prop, (∃ m, W 0 m (L2.upd H1 D (.lst []))) ∧ ∀ i m H, W i m H →
      ((Itr lo n).stop i H ∧ Qd H) ∨ ((Itr lo n).go i H ∧ ∃ Nx : Hp → Prop, (∀ H', Nx H' → ∃ m', m' < m ∧ W (i + 1) m' H') ∧ ∀ x H', (Itr lo n).yld i H x H' → gName j x (wipe σ vs) H' fun σ2 H2 => wipe σ2 vs = wipe σ vs ∧ tYes σ2 H2 fun b H3 =>
        if b = true then te σ2 H3 fun y H4 => ∃ acc, H4 D = some (.lst acc) ∧ acc.length < sizeLine ∧ Nx (L2.upd H4 D (.lst (acc ++ [y]))) else Nx H3) := by
  refine lc_range (lo := lo) (n := n) (fun i H' => Same H1 H' ∧ H' D = some (IL ((List.range i).map f))) ⟨same_new hD _, upd_same⟩ ?_ ?_
  · intro i H hi h
    obtain ⟨h1, h2⟩ := h
    refine ⟨hw _, ?_⟩
    simp only [tYes, if_true]
    refine hte i H _ hi h1 fun H4 hs => ?_
    have hlt : i < n := hi
    have e : H4 D = some (IL ((List.range i).map f)) := hs D _ h2
    have ez : ((List.range i).map f).map V.int ++ [V.int (f i)] = ((List.range (i + 1)).map f).map V.int := by rw [List.range_succ, List.map_append, List.map_append]; rfl
    refine ⟨_, e, by rw [List.length_map, List.length_map, List.length_range]; exact line_lt (by omega), fun b o hb => ?_, ?_⟩
    · rw [upd_ne (ne_of_none hb hD)]
      exact hs _ _ (h1 b o hb)
    · rw [upd_same, ez]
      rfl
  · intro H h
    exact hd H h.1 h.2
theorem lc_rangeF {lo : Int} {n : Nat} {f : Nat → Int} {kp : Nat → Bool} {tt : TT} {j : Nat} {te : TE} {vs : List Nat} {σ : L2.St} {H1 : Hp} {D : Addr} {Qd : Hp → Prop} (hn : n ≤ 16777215) (hD : H1 D = none) (hw : ∀ v, wipe ((wipe σ vs).set j v) vs = wipe σ vs)
    (htt : ∀ i H3 (Q' : Bool → Hp → Prop), i < n → Same H1 H3 → (∀ H4, Same H3 H4 → Q' (kp i) H4) → tt ((wipe σ vs).set j (some (.int (lo + (i : Nat))))) H3 Q')
    (hte : ∀ i H3 (Q' : VK), i < n → kp i = true → Same H1 H3 → (∀ H4, Same H3 H4 → Q' (.int (f i)) H4) → te ((wipe σ vs).set j (some (.int (lo + (i : Nat))))) H3 Q')
    (hd : ∀ H', Same H1 H' → H' D = some (IL (((List.range n).filter kp).map f)) → Qd H') :
    ∃ W : Nat → Nat → Hp → Prop, (∃ m, W 0 m (L2.upd H1 D (.lst []))) ∧ ∀ i m H, W i m H →
      ((Itr lo n).stop i H ∧ Qd H) ∨ ((Itr lo n).go i H ∧ ∃ Nx : Hp → Prop, (∀ H', Nx H' → ∃ m', m' < m ∧ W (i + 1) m' H') ∧ ∀ x H', (Itr lo n).yld i H x H' → gName j x (wipe σ vs) H' fun σ2 H2 => wipe σ2 vs = wipe σ vs ∧ tt σ2 H2 fun b H3 =>
        if b = true then te σ2 H3 fun y H4 => ∃ acc, H4 D = some (.lst acc) ∧ acc.length < sizeLine ∧ Nx (L2.upd H4 D (.lst (acc ++ [y]))) else Nx H3) := by
  refine lc_range (lo := lo) (n := n) (fun i H' => Same H1 H' ∧ H' D = some (IL (((List.range i).filter kp).map f))) ⟨same_new hD _, upd_same⟩ ?_ ?_
  · intro i H hi h
    obtain ⟨h1, h2⟩ := h
    refine ⟨hw _, ?_⟩
    refine htt i H _ hi h1 fun H4 hs => ?_
    have hlt : i < n := hi
    by_cases c : kp i = true
    · rw [if_pos c]
      refine hte i H4 _ hi c (h1.trans hs) fun H5 hs5 => ?_
      have e : H5 D = some (IL (((List.range i).filter kp).map f)) := hs5 D _ (hs D _ h2)
      have ez : (((List.range i).filter kp).map f).map V.int ++ [V.int (f i)] = (((List.range (i + 1)).filter kp).map f).map V.int := by
        rw [List.range_succ, List.filter_append, List.map_append, List.map_append]
        simp [c]
      refine ⟨_, e, ?_, fun b o hb => ?_, ?_⟩
      · rw [List.length_map, List.length_map]
        have := List.length_filter_le kp (List.range i)
        rw [List.length_range] at this
        exact line_lt (by omega)
      · rw [upd_ne (ne_of_none hb hD)]
        exact hs5 _ _ (hs _ _ (h1 b o hb))
      · rw [upd_same, ez]
        rfl
    · rw [if_neg c]
      refine ⟨h1.trans hs, ?_⟩
      rw [hs D _ h2, List.range_succ, List.filter_append]
      simp [c]
  · intro H h
    exact hd H h.1 h.2
theorem lc_listI {K : PySem.W.Frag} {a : Addr} {xs : List V} {f : Nat → Int} {j : Nat} {te : TE} {vs : List Nat} {σ : L2.St} {H1 : Hp} {D : Addr} {Qd : Hp → Prop} (hn : xs.length ≤ 16777215) (hS : SqL K H1 a xs) (hD : H1 D = none) (hw : ∀ v, wipe ((wipe σ vs).set j v) vs = wipe σ vs)
    (hte : ∀ i x H3 (Q' : VK), xs[i]? = some x → Same H1 H3 → (∀ H4, Same H3 H4 → Q' (.int (f i)) H4) → te ((wipe σ vs).set j (some (x))) H3 Q')
    (hd : ∀ H', Same H1 H' → H' D = some (IL ((List.range xs.length).map f)) → Qd H') :
    ∃ W : Nat → Nat → Hp → Prop, (∃ m, W 0 m (L2.upd H1 D (.lst []))) ∧ ∀ i m H, W i m H →
      ((Itl K a).stop i H ∧ Qd H) ∨ ((Itl K a).go i H ∧ ∃ Nx : Hp → Prop, (∀ H', Nx H' → ∃ m', m' < m ∧ W (i + 1) m' H') ∧ ∀ x H', (Itl K a).yld i H x H' → gName j x (wipe σ vs) H' fun σ2 H2 => wipe σ2 vs = wipe σ vs ∧ tYes σ2 H2 fun b H3 =>
        if b = true then te σ2 H3 fun y H4 => ∃ acc, H4 D = some (.lst acc) ∧ acc.length < sizeLine ∧ Nx (L2.upd H4 D (.lst (acc ++ [y]))) else Nx H3) := by
  refine lc_list (K := K) (a := a) (xs := xs) (fun i H' => Same H1 H' ∧ H' D = some (IL ((List.range i).map f))) ⟨same_new hD _, upd_same⟩ (fun i H' _ h => ?_) ?_ ?_
  · exact Same.seq h.1 hS
  · intro i x H hi h
    obtain ⟨h1, h2⟩ := h
    refine ⟨hw _, ?_⟩
    simp only [tYes, if_true]
    refine hte i _ H _ hi h1 fun H4 hs => ?_
    have hlt : i < xs.length := (List.getElem?_eq_some_iff.mp hi).1
    have e : H4 D = some (IL ((List.range i).map f)) := hs D _ h2
    have ez : ((List.range i).map f).map V.int ++ [V.int (f i)] = ((List.range (i + 1)).map f).map V.int := by rw [List.range_succ, List.map_append, List.map_append]; rfl
    refine ⟨_, e, by rw [List.length_map, List.length_map, List.length_range]; exact line_lt (by omega), fun b o hb => ?_, ?_⟩
    · rw [upd_ne (ne_of_none hb hD)]
      exact hs _ _ (h1 b o hb)
    · rw [upd_same, ez]
      rfl
  · intro H h
    exact hd H h.1 h.2
theorem lc_listF {K : PySem.W.Frag} {a : Addr} {xs : List V} {f : Nat → Int} {kp : Nat → Bool} {tt : TT} {j : Nat} {te : TE} {vs : List Nat} {σ : L2.St} {H1 : Hp} {D : Addr} {Qd : Hp → Prop} (hn : xs.length ≤ 16777215) (hS : SqL K H1 a xs) (hD : H1 D = none) (hw : ∀ v, wipe ((wipe σ vs).set j v) vs = wipe σ vs)
    (htt : ∀ i x H3 (Q' : Bool → Hp → Prop), xs[i]? = some x → Same H1 H3 → (∀ H4, Same H3 H4 → Q' (kp i) H4) → tt ((wipe σ vs).set j (some (x))) H3 Q')
    (hte : ∀ i x H3 (Q' : VK), xs[i]? = some x → kp i = true → Same H1 H3 → (∀ H4, Same H3 H4 → Q' (.int (f i)) H4) → te ((wipe σ vs).set j (some (x))) H3 Q')
    (hd : ∀ H', Same H1 H' → H' D = some (IL (((List.range xs.length).filter kp).map f)) → Qd H') :
    ∃ W : Nat → Nat → Hp → Prop, (∃ m, W 0 m (L2.upd H1 D (.lst []))) ∧ ∀ i m H, W i m H →
      ((Itl K a).stop i H ∧ Qd H) ∨ ((Itl K a).go i H ∧ ∃ Nx : Hp → Prop, (∀ H', Nx H' → ∃ m', m' < m ∧ W (i + 1) m' H') ∧ ∀ x H', (Itl K a).yld i H x H' → gName j x (wipe σ vs) H' fun σ2 H2 => wipe σ2 vs = wipe σ vs ∧ tt σ2 H2 fun b H3 =>
        if b = true then te σ2 H3 fun y H4 => ∃ acc, H4 D = some (.lst acc) ∧ acc.length < sizeLine ∧ Nx (L2.upd H4 D (.lst (acc ++ [y]))) else Nx H3) := by
  refine lc_list (K := K) (a := a) (xs := xs) (fun i H' => Same H1 H' ∧ H' D = some (IL (((List.range i).filter kp).map f))) ⟨same_new hD _, upd_same⟩ (fun i H' _ h => ?_) ?_ ?_
  · exact Same.seq h.1 hS
  · intro i x H hi h
    obtain ⟨h1, h2⟩ := h
    refine ⟨hw _, ?_⟩
    refine htt i _ H _ hi h1 fun H4 hs => ?_
    have hlt : i < xs.length := (List.getElem?_eq_some_iff.mp hi).1
    by_cases c : kp i = true
    · rw [if_pos c]
      refine hte i _ H4 _ hi c (h1.trans hs) fun H5 hs5 => ?_
      have e : H5 D = some (IL (((List.range i).filter kp).map f)) := hs5 D _ (hs D _ h2)
      have ez : (((List.range i).filter kp).map f).map V.int ++ [V.int (f i)] = (((List.range (i + 1)).filter kp).map f).map V.int := by
        rw [List.range_succ, List.filter_append, List.map_append, List.map_append]
        simp [c]
      refine ⟨_, e, ?_, fun b o hb => ?_, ?_⟩
      · rw [List.length_map, List.length_map]
        have := List.length_filter_le kp (List.range i)
        rw [List.length_range] at this
        exact line_lt (by omega)
      · rw [upd_ne (ne_of_none hb hD)]
        exact hs5 _ _ (hs _ _ (h1 b o hb))
      · rw [upd_same, ez]
        rfl
    · rw [if_neg c]
      refine ⟨h1.trans hs, ?_⟩
      rw [hs D _ h2, List.range_succ, List.filter_append]
      simp [c]
  · intro H h
    exact hd H h.1 h.2
theorem lc_tupI {K : PySem.W.Frag} {a : Addr} {xs : List V} {f : Nat → Int} {j : Nat} {te : TE} {vs : List Nat} {σ : L2.St} {H1 : Hp} {D : Addr} {Qd : Hp → Prop} (hn : xs.length ≤ 16777215) (hS : SqT K H1 a xs) (hD : H1 D = none) (hw : ∀ v, wipe ((wipe σ vs).set j v) vs = wipe σ vs)
    (hte : ∀ i x H3 (Q' : VK), xs[i]? = some x → Same H1 H3 → (∀ H4, Same H3 H4 → Q' (.int (f i)) H4) → te ((wipe σ vs).set j (some (x))) H3 Q')
    (hd : ∀ H', Same H1 H' → H' D = some (IL ((List.range xs.length).map f)) → Qd H') :
    ∃ W : Nat → Nat → Hp → Prop, (∃ m, W 0 m (L2.upd H1 D (.lst []))) ∧ ∀ i m H, W i m H →
      ((Itt K a).stop i H ∧ Qd H) ∨ ((Itt K a).go i H ∧ ∃ Nx : Hp → Prop, (∀ H', Nx H' → ∃ m', m' < m ∧ W (i + 1) m' H') ∧ ∀ x H', (Itt K a).yld i H x H' → gName j x (wipe σ vs) H' fun σ2 H2 => wipe σ2 vs = wipe σ vs ∧ tYes σ2 H2 fun b H3 =>
        if b = true then te σ2 H3 fun y H4 => ∃ acc, H4 D = some (.lst acc) ∧ acc.length < sizeLine ∧ Nx (L2.upd H4 D (.lst (acc ++ [y]))) else Nx H3) := by
  refine lc_tup (K := K) (a := a) (xs := xs) (fun i H' => Same H1 H' ∧ H' D = some (IL ((List.range i).map f))) ⟨same_new hD _, upd_same⟩ (fun i H' _ h => ?_) ?_ ?_
  · exact Same.seqT h.1 hS
  · intro i x H hi h
    obtain ⟨h1, h2⟩ := h
    refine ⟨hw _, ?_⟩
    simp only [tYes, if_true]
    refine hte i _ H _ hi h1 fun H4 hs => ?_
    have hlt : i < xs.length := (List.getElem?_eq_some_iff.mp hi).1
    have e : H4 D = some (IL ((List.range i).map f)) := hs D _ h2
    have ez : ((List.range i).map f).map V.int ++ [V.int (f i)] = ((List.range (i + 1)).map f).map V.int := by rw [List.range_succ, List.map_append, List.map_append]; rfl
    refine ⟨_, e, by rw [List.length_map, List.length_map, List.length_range]; exact line_lt (by omega), fun b o hb => ?_, ?_⟩
    · rw [upd_ne (ne_of_none hb hD)]
      exact hs _ _ (h1 b o hb)
    · rw [upd_same, ez]
      rfl
  · intro H h
    exact hd H h.1 h.2
theorem lc_tupF {K : PySem.W.Frag} {a : Addr} {xs : List V} {f : Nat → Int} {kp : Nat → Bool} {tt : TT} {j : Nat} {te : TE} {vs : List Nat} {σ : L2.St} {H1 : Hp} {D : Addr} {Qd : Hp → Prop} (hn : xs.length ≤ 16777215) (hS : SqT K H1 a xs) (hD : H1 D = none) (hw : ∀ v, wipe ((wipe σ vs).set j v) vs = wipe σ vs)
    (htt : ∀ i x H3 (Q' : Bool → Hp → Prop), xs[i]? = some x → Same H1 H3 → (∀ H4, Same H3 H4 → Q' (kp i) H4) → tt ((wipe σ vs).set j (some (x))) H3 Q')
    (hte : ∀ i x H3 (Q' : VK), xs[i]? = some x → kp i = true → Same H1 H3 → (∀ H4, Same H3 H4 → Q' (.int (f i)) H4) → te ((wipe σ vs).set j (some (x))) H3 Q')
    (hd : ∀ H', Same H1 H' → H' D = some (IL (((List.range xs.length).filter kp).map f)) → Qd H') :
    ∃ W : Nat → Nat → Hp → Prop, (∃ m, W 0 m (L2.upd H1 D (.lst []))) ∧ ∀ i m H, W i m H →
      ((Itt K a).stop i H ∧ Qd H) ∨ ((Itt K a).go i H ∧ ∃ Nx : Hp → Prop, (∀ H', Nx H' → ∃ m', m' < m ∧ W (i + 1) m' H') ∧ ∀ x H', (Itt K a).yld i H x H' → gName j x (wipe σ vs) H' fun σ2 H2 => wipe σ2 vs = wipe σ vs ∧ tt σ2 H2 fun b H3 =>
        if b = true then te σ2 H3 fun y H4 => ∃ acc, H4 D = some (.lst acc) ∧ acc.length < sizeLine ∧ Nx (L2.upd H4 D (.lst (acc ++ [y]))) else Nx H3) := by
  refine lc_tup (K := K) (a := a) (xs := xs) (fun i H' => Same H1 H' ∧ H' D = some (IL (((List.range i).filter kp).map f))) ⟨same_new hD _, upd_same⟩ (fun i H' _ h => ?_) ?_ ?_
  · exact Same.seqT h.1 hS
  · intro i x H hi h
    obtain ⟨h1, h2⟩ := h
    refine ⟨hw _, ?_⟩
    refine htt i _ H _ hi h1 fun H4 hs => ?_
    have hlt : i < xs.length := (List.getElem?_eq_some_iff.mp hi).1
    by_cases c : kp i = true
    · rw [if_pos c]
      refine hte i _ H4 _ hi c (h1.trans hs) fun H5 hs5 => ?_
      have e : H5 D = some (IL (((List.range i).filter kp).map f)) := hs5 D _ (hs D _ h2)
      have ez : (((List.range i).filter kp).map f).map V.int ++ [V.int (f i)] = (((List.range (i + 1)).filter kp).map f).map V.int := by
        rw [List.range_succ, List.filter_append, List.map_append, List.map_append]
        simp [c]
      refine ⟨_, e, ?_, fun b o hb => ?_, ?_⟩
      · rw [List.length_map, List.length_map]
        have := List.length_filter_le kp (List.range i)
        rw [List.length_range] at this
        exact line_lt (by omega)
      · rw [upd_ne (ne_of_none hb hD)]
        exact hs5 _ _ (hs _ _ (h1 b o hb))
      · rw [upd_same, ez]
        rfl
    · rw [if_neg c]
      refine ⟨h1.trans hs, ?_⟩
      rw [hs D _ h2, List.range_succ, List.filter_append]
      simp [c]
  · intro H h
    exact hd H h.1 h.2
/-! ### .. any values -/
theorem lc_rangeV {lo : Int} {n : Nat} {f : Nat → V} {j : Nat} {te : TE} {vs : List Nat} {σ : L2.St} {H1 : Hp} {D : Addr} {Qd : Hp → Prop} (hn : n ≤ 16777215) (hD : H1 D = none) (hw : ∀ v, wipe ((wipe σ vs).set j v) vs = wipe σ vs)
    (hte : ∀ i H3 (Q' : VK), i < n → Same H1 H3 → (∀ H4, Same H3 H4 → Q' (f i) H4) → te ((wipe σ vs).set j (some (.int (lo + (i : Nat))))) H3 Q')
    (hd : ∀ H', Same H1 H' → H' D = some (.lst ((List.range n).map f)) → Qd H') :
    ∃ W : Nat → Nat → Hp → Prop, (∃ m, W 0 m (L2.upd H1 D (.lst []))) ∧ ∀ i m H, W i m H →
      ((Itr lo n).stop i H ∧ Qd H) ∨ ((Itr lo n).go i H ∧ ∃ Nx : Hp → Prop, (∀ H', Nx H' → ∃ m', m' < m ∧ W (i + 1) m' H') ∧ ∀ x H', (Itr lo n).yld i H x H' → gName j x (wipe σ vs) H' fun σ2 H2 => wipe σ2 vs = wipe σ vs ∧ tYes σ2 H2 fun b H3 =>
        if b = true then te σ2 H3 fun y H4 => ∃ acc, H4 D = some (.lst acc) ∧ acc.length < sizeLine ∧ Nx (L2.upd H4 D (.lst (acc ++ [y]))) else Nx H3) := by
  refine lc_range (lo := lo) (n := n) (fun i H' => Same H1 H' ∧ H' D = some (.lst ((List.range i).map f))) ⟨same_new hD _, upd_same⟩ ?_ ?_
  · intro i H hi h
    obtain ⟨h1, h2⟩ := h
    refine ⟨hw _, ?_⟩
    simp only [tYes, if_true]
    refine hte i H _ hi h1 fun H4 hs => ?_
    have hlt : i < n := hi
    have e : H4 D = some (.lst ((List.range i).map f)) := hs D _ h2
    have ez : ((List.range i).map f) ++ [f i] = ((List.range (i + 1)).map f) := by rw [List.range_succ, List.map_append]; rfl
    refine ⟨_, e, by rw [List.length_map, List.length_range]; exact line_lt (by omega), fun b o hb => ?_, ?_⟩
    · rw [upd_ne (ne_of_none hb hD)]
      exact hs _ _ (h1 b o hb)
    · rw [upd_same, ez]
  · intro H h
    exact hd H h.1 h.2
theorem lc_rangeVF {lo : Int} {n : Nat} {f : Nat → V} {kp : Nat → Bool} {tt : TT} {j : Nat} {te : TE} {vs : List Nat} {σ : L2.St} {H1 : Hp} {D : Addr} {Qd : Hp → Prop} (hn : n ≤ 16777215) (hD : H1 D = none) (hw : ∀ v, wipe ((wipe σ vs).set j v) vs = wipe σ vs)
    (htt : ∀ i H3 (Q' : Bool → Hp → Prop), i < n → Same H1 H3 → (∀ H4, Same H3 H4 → Q' (kp i) H4) → tt ((wipe σ vs).set j (some (.int (lo + (i : Nat))))) H3 Q')
    (hte : ∀ i H3 (Q' : VK), i < n → kp i = true → Same H1 H3 → (∀ H4, Same H3 H4 → Q' (f i) H4) → te ((wipe σ vs).set j (some (.int (lo + (i : Nat))))) H3 Q')
    (hd : ∀ H', Same H1 H' → H' D = some (.lst (((List.range n).filter kp).map f)) → Qd H') :
    ∃ W : Nat → Nat → Hp → Prop, (∃ m, W 0 m (L2.upd H1 D (.lst []))) ∧ ∀ i m H, W i m H →
      ((Itr lo n).stop i H ∧ Qd H) ∨ ((Itr lo n).go i H ∧ ∃ Nx : Hp → Prop, (∀ H', Nx H' → ∃ m', m' < m ∧ W (i + 1) m' H') ∧ ∀ x H', (Itr lo n).yld i H x H' → gName j x (wipe σ vs) H' fun σ2 H2 => wipe σ2 vs = wipe σ vs ∧ tt σ2 H2 fun b H3 =>
        if b = true then te σ2 H3 fun y H4 => ∃ acc, H4 D = some (.lst acc) ∧ acc.length < sizeLine ∧ Nx (L2.upd H4 D (.lst (acc ++ [y]))) else Nx H3) := by
  refine lc_range (lo := lo) (n := n) (fun i H' => Same H1 H' ∧ H' D = some (.lst (((List.range i).filter kp).map f))) ⟨same_new hD _, upd_same⟩ ?_ ?_
  · intro i H hi h
    obtain ⟨h1, h2⟩ := h
    refine ⟨hw _, ?_⟩
    refine htt i H _ hi h1 fun H4 hs => ?_
    have hlt : i < n := hi
    by_cases c : kp i = true
    · rw [if_pos c]
      refine hte i H4 _ hi c (h1.trans hs) fun H5 hs5 => ?_
      have e : H5 D = some (.lst (((List.range i).filter kp).map f)) := hs5 D _ (hs D _ h2)
      have ez : (((List.range i).filter kp).map f) ++ [f i] = (((List.range (i + 1)).filter kp).map f) := by
        rw [List.range_succ, List.filter_append, List.map_append]
        simp [c]
      refine ⟨_, e, ?_, fun b o hb => ?_, ?_⟩
      · rw [List.length_map]
        have := List.length_filter_le kp (List.range i)
        rw [List.length_range] at this
        exact line_lt (by omega)
      · rw [upd_ne (ne_of_none hb hD)]
        exact hs5 _ _ (hs _ _ (h1 b o hb))
      · rw [upd_same, ez]
    · rw [if_neg c]
      refine ⟨h1.trans hs, ?_⟩
      rw [hs D _ h2, List.range_succ, List.filter_append]
      simp [c]
  · intro H h
    exact hd H h.1 h.2
theorem lc_listV {K : PySem.W.Frag} {a : Addr} {xs : List V} {f : Nat → V} {j : Nat} {te : TE} {vs : List Nat} {σ : L2.St} {H1 : Hp} {D : Addr} {Qd : Hp → Prop} (hn : xs.length ≤ 16777215) (hS : SqL K H1 a xs) (hD : H1 D = none) (hw : ∀ v, wipe ((wipe σ vs).set j v) vs = wipe σ vs)
    (hte : ∀ i x H3 (Q' : VK), xs[i]? = some x → Same H1 H3 → (∀ H4, Same H3 H4 → Q' (f i) H4) → te ((wipe σ vs).set j (some (x))) H3 Q')
    (hd : ∀ H', Same H1 H' → H' D = some (.lst ((List.range xs.length).map f)) → Qd H') :
    ∃ W : Nat → Nat → Hp → Prop, (∃ m, W 0 m (L2.upd H1 D (.lst []))) ∧ ∀ i m H, W i m H →
      ((Itl K a).stop i H ∧ Qd H) ∨ ((Itl K a).go i H ∧ ∃ Nx : Hp → Prop, (∀ H', Nx H' → ∃ m', m' < m ∧ W (i + 1) m' H') ∧ ∀ x H', (Itl K a).yld i H x H' → gName j x (wipe σ vs) H' fun σ2 H2 => wipe σ2 vs = wipe σ vs ∧ tYes σ2 H2 fun b H3 =>
        if b = true then te σ2 H3 fun y H4 => ∃ acc, H4 D = some (.lst acc) ∧ acc.length < sizeLine ∧ Nx (L2.upd H4 D (.lst (acc ++ [y]))) else Nx H3) := by
  refine lc_list (K := K) (a := a) (xs := xs) (fun i H' => Same H1 H' ∧ H' D = some (.lst ((List.range i).map f))) ⟨same_new hD _, upd_same⟩ (fun i H' _ h => ?_) ?_ ?_
  · exact Same.seq h.1 hS
  · intro i x H hi h
    obtain ⟨h1, h2⟩ := h
    refine ⟨hw _, ?_⟩
    simp only [tYes, if_true]
    refine hte i _ H _ hi h1 fun H4 hs => ?_
    have hlt : i < xs.length := (List.getElem?_eq_some_iff.mp hi).1
    have e : H4 D = some (.lst ((List.range i).map f)) := hs D _ h2
    have ez : ((List.range i).map f) ++ [f i] = ((List.range (i + 1)).map f) := by rw [List.range_succ, List.map_append]; rfl
    refine ⟨_, e, by rw [List.length_map, List.length_range]; exact line_lt (by omega), fun b o hb => ?_, ?_⟩
    · rw [upd_ne (ne_of_none hb hD)]
      exact hs _ _ (h1 b o hb)
    · rw [upd_same, ez]
  · intro H h
    exact hd H h.1 h.2
theorem lc_listVF {K : PySem.W.Frag} {a : Addr} {xs : List V} {f : Nat → V} {kp : Nat → Bool} {tt : TT} {j : Nat} {te : TE} {vs : List Nat} {σ : L2.St} {H1 : Hp} {D : Addr} {Qd : Hp → Prop} (hn : xs.length ≤ 16777215) (hS : SqL K H1 a xs) (hD : H1 D = none) (hw : ∀ v, wipe ((wipe σ vs).set j v) vs = wipe σ vs)
    (htt : ∀ i x H3 (Q' : Bool → Hp → Prop), xs[i]? = some x → Same H1 H3 → (∀ H4, Same H3 H4 → Q' (kp i) H4) → tt ((wipe σ vs).set j (some (x))) H3 Q')
    (hte : ∀ i x H3 (Q' : VK), xs[i]? = some x → kp i = true → Same H1 H3 → (∀ H4, Same H3 H4 → Q' (f i) H4) → te ((wipe σ vs).set j (some (x))) H3 Q')
    (hd : ∀ H', Same H1 H' → H' D = some (.lst (((List.range xs.length).filter kp).map f)) → Qd H') :
    ∃ W : Nat → Nat → Hp → Prop, (∃ m, W 0 m (L2.upd H1 D (.lst []))) ∧ ∀ i m H, W i m H →
      ((Itl K a).stop i H ∧ Qd H) ∨ ((Itl K a).go i H ∧ ∃ Nx : Hp → Prop, (∀ H', Nx H' → ∃ m', m' < m ∧ W (i + 1) m' H') ∧ ∀ x H', (Itl K a).yld i H x H' → gName j x (wipe σ vs) H' fun σ2 H2 => wipe σ2 vs = wipe σ vs ∧ tt σ2 H2 fun b H3 =>
        if b = true then te σ2 H3 fun y H4 => ∃ acc, H4 D = some (.lst acc) ∧ acc.length < sizeLine ∧ Nx (L2.upd H4 D (.lst (acc ++ [y]))) else Nx H3) := by
  refine lc_list (K := K) (a := a) (xs := xs) (fun i H' => Same H1 H' ∧ H' D = some (.lst (((List.range i).filter kp).map f))) ⟨same_new hD _, upd_same⟩ (fun i H' _ h => ?_) ?_ ?_
  · exact Same.seq h.1 hS
  · intro i x H hi h
    obtain ⟨h1, h2⟩ := h
    refine ⟨hw _, ?_⟩
    refine htt i _ H _ hi h1 fun H4 hs => ?_
    have hlt : i < xs.length := (List.getElem?_eq_some_iff.mp hi).1
    by_cases c : kp i = true
    · rw [if_pos c]
      refine hte i _ H4 _ hi c (h1.trans hs) fun H5 hs5 => ?_
      have e : H5 D = some (.lst (((List.range i).filter kp).map f)) := hs5 D _ (hs D _ h2)
      have ez : (((List.range i).filter kp).map f) ++ [f i] = (((List.range (i + 1)).filter kp).map f) := by
        rw [List.range_succ, List.filter_append, List.map_append]
        simp [c]
      refine ⟨_, e, ?_, fun b o hb => ?_, ?_⟩
      · rw [List.length_map]
        have := List.length_filter_le kp (List.range i)
        rw [List.length_range] at this
        exact line_lt (by omega)
      · rw [upd_ne (ne_of_none hb hD)]
        exact hs5 _ _ (hs _ _ (h1 b o hb))
      · rw [upd_same, ez]
    · rw [if_neg c]
      refine ⟨h1.trans hs, ?_⟩
      rw [hs D _ h2, List.range_succ, List.filter_append]
      simp [c]
  · intro H h
    exact hd H h.1 h.2
theorem lc_tupV {K : PySem.W.Frag} {a : Addr} {xs : List V} {f : Nat → V} {j : Nat} {te : TE} {vs : List Nat} {σ : L2.St} {H1 : Hp} {D : Addr} {Qd : Hp → Prop} (hn : xs.length ≤ 16777215) (hS : SqT K H1 a xs) (hD : H1 D = none) (hw : ∀ v, wipe ((wipe σ vs).set j v) vs = wipe σ vs)
    (hte : ∀ i x H3 (Q' : VK), xs[i]? = some x → Same H1 H3 → (∀ H4, Same H3 H4 → Q' (f i) H4) → te ((wipe σ vs).set j (some (x))) H3 Q')
    (hd : ∀ H', Same H1 H' → H' D = some (.lst ((List.range xs.length).map f)) → Qd H') :
    ∃ W : Nat → Nat → Hp → Prop, (∃ m, W 0 m (L2.upd H1 D (.lst []))) ∧ ∀ i m H, W i m H →
      ((Itt K a).stop i H ∧ Qd H) ∨ ((Itt K a).go i H ∧ ∃ Nx : Hp → Prop, (∀ H', Nx H' → ∃ m', m' < m ∧ W (i + 1) m' H') ∧ ∀ x H', (Itt K a).yld i H x H' → gName j x (wipe σ vs) H' fun σ2 H2 => wipe σ2 vs = wipe σ vs ∧ tYes σ2 H2 fun b H3 =>
        if b = true then te σ2 H3 fun y H4 => ∃ acc, H4 D = some (.lst acc) ∧ acc.length < sizeLine ∧ Nx (L2.upd H4 D (.lst (acc ++ [y]))) else Nx H3) := by
  refine lc_tup (K := K) (a := a) (xs := xs) (fun i H' => Same H1 H' ∧ H' D = some (.lst ((List.range i).map f))) ⟨same_new hD _, upd_same⟩ (fun i H' _ h => ?_) ?_ ?_
  · exact Same.seqT h.1 hS
  · intro i x H hi h
    obtain ⟨h1, h2⟩ := h
    refine ⟨hw _, ?_⟩
    simp only [tYes, if_true]
    refine hte i _ H _ hi h1 fun H4 hs => ?_
    have hlt : i < xs.length := (List.getElem?_eq_some_iff.mp hi).1
    have e : H4 D = some (.lst ((List.range i).map f)) := hs D _ h2
    have ez : ((List.range i).map f) ++ [f i] = ((List.range (i + 1)).map f) := by rw [List.range_succ, List.map_append]; rfl
    refine ⟨_, e, by rw [List.length_map, List.length_range]; exact line_lt (by omega), fun b o hb => ?_, ?_⟩
    · rw [upd_ne (ne_of_none hb hD)]
      exact hs _ _ (h1 b o hb)
    · rw [upd_same, ez]
  · intro H h
    exact hd H h.1 h.2
theorem lc_tupVF {K : PySem.W.Frag} {a : Addr} {xs : List V} {f : Nat → V} {kp : Nat → Bool} {tt : TT} {j : Nat} {te : TE} {vs : List Nat} {σ : L2.St} {H1 : Hp} {D : Addr} {Qd : Hp → Prop} (hn : xs.length ≤ 16777215) (hS : SqT K H1 a xs) (hD : H1 D = none) (hw : ∀ v, wipe ((wipe σ vs).set j v) vs = wipe σ vs)
    (htt : ∀ i x H3 (Q' : Bool → Hp → Prop), xs[i]? = some x → Same H1 H3 → (∀ H4, Same H3 H4 → Q' (kp i) H4) → tt ((wipe σ vs).set j (some (x))) H3 Q')
    (hte : ∀ i x H3 (Q' : VK), xs[i]? = some x → kp i = true → Same H1 H3 → (∀ H4, Same H3 H4 → Q' (f i) H4) → te ((wipe σ vs).set j (some (x))) H3 Q')
    (hd : ∀ H', Same H1 H' → H' D = some (.lst (((List.range xs.length).filter kp).map f)) → Qd H') :
    ∃ W : Nat → Nat → Hp → Prop, (∃ m, W 0 m (L2.upd H1 D (.lst []))) ∧ ∀ i m H, W i m H →
      ((Itt K a).stop i H ∧ Qd H) ∨ ((Itt K a).go i H ∧ ∃ Nx : Hp → Prop, (∀ H', Nx H' → ∃ m', m' < m ∧ W (i + 1) m' H') ∧ ∀ x H', (Itt K a).yld i H x H' → gName j x (wipe σ vs) H' fun σ2 H2 => wipe σ2 vs = wipe σ vs ∧ tt σ2 H2 fun b H3 =>
        if b = true then te σ2 H3 fun y H4 => ∃ acc, H4 D = some (.lst acc) ∧ acc.length < sizeLine ∧ Nx (L2.upd H4 D (.lst (acc ++ [y]))) else Nx H3) := by
  refine lc_tup (K := K) (a := a) (xs := xs) (fun i H' => Same H1 H' ∧ H' D = some (.lst (((List.range i).filter kp).map f))) ⟨same_new hD _, upd_same⟩ (fun i H' _ h => ?_) ?_ ?_
  · exact Same.seqT h.1 hS
  · intro i x H hi h
    obtain ⟨h1, h2⟩ := h
    refine ⟨hw _, ?_⟩
    refine htt i _ H _ hi h1 fun H4 hs => ?_
    have hlt : i < xs.length := (List.getElem?_eq_some_iff.mp hi).1
    by_cases c : kp i = true
    · rw [if_pos c]
      refine hte i _ H4 _ hi c (h1.trans hs) fun H5 hs5 => ?_
      have e : H5 D = some (.lst (((List.range i).filter kp).map f)) := hs5 D _ (hs D _ h2)
      have ez : (((List.range i).filter kp).map f) ++ [f i] = (((List.range (i + 1)).filter kp).map f) := by
        rw [List.range_succ, List.filter_append, List.map_append]
        simp [c]
      refine ⟨_, e, ?_, fun b o hb => ?_, ?_⟩
      · rw [List.length_map]
        have := List.length_filter_le kp (List.range i)
        rw [List.length_range] at this
        exact line_lt (by omega)
      · rw [upd_ne (ne_of_none hb hD)]
        exact hs5 _ _ (hs _ _ (h1 b o hb))
      · rw [upd_same, ez]
    · rw [if_neg c]
      refine ⟨h1.trans hs, ?_⟩
      rw [hs D _ h2, List.range_succ, List.filter_append]
      simp [c]
  · intro H h
    exact hd H h.1 h.2
def BL (bs : List Bool) : HO := .lst (bs.map V.bl)
def rAllB : List V → Hp → VK → Prop := fun vs H Q => ∃ (a : Addr) (bs : List Bool), vs = [V.ref a] ∧ H a = some (BL bs) ∧ Q (.bl (bs.all id)) H
def rAnyB : List V → Hp → VK → Prop := fun vs H Q => ∃ (a : Addr) (bs : List Bool), vs = [V.ref a] ∧ H a = some (BL bs) ∧ Q (.bl (bs.any id)) H
theorem cr_allB {X : Cx} (hc : X.calm = true) : CallR X (.builtin "all") rAllB := CallR.imp (cr_all hc) fun xs H Q h => by
  obtain ⟨a, bs, e, h1, q⟩ := h
  exact ⟨a, bs, e, .of h1, q⟩
theorem cr_anyB {X : Cx} (hc : X.calm = true) : CallR X (.builtin "any") rAnyB := CallR.imp (cr_any hc) fun xs H Q h => by
  obtain ⟨a, bs, e, h1, q⟩ := h
  exact ⟨a, bs, e, .of h1, q⟩
theorem BL_inj {a b : List Bool} : (BL a = BL b) = (a = b) := by
  apply propext
  constructor
  · intro h
    unfold BL at h
    injection h with h
    exact List.map_inj_right (fun x y e => V.bl.inj e) |>.mp h
  · intro h
    rw [h]
theorem BL_of {H : Hp} {D : Addr} {n : Nat} {f : Nat → Bool} (h : H D = some (.lst ((List.range n).map fun i => V.bl (f i)))) : H D = some (BL ((List.range n).map f)) := by
  rw [h]
  unfold BL
  rw [List.map_map]
  rfl
/-- all of the items of a list, by their places -/
theorem all_items {ns : List Int} {p : Int → Bool} : (((List.range ns.length).map fun i => p (ns.getD i 0)).all id) = ns.all p := by
  induction ns with
  | nil => rfl
  | cons n r ih =>
    rw [List.length_cons, List.range_succ_eq_map, List.map_cons, List.map_map, List.all_cons, List.all_cons, ← ih]
    rfl
end Dw

namespace Dw
open PySem PySem.Spec PyProof.Rows L2
/-- what the top says of an own error class over ValueError, without an __init__ of its own -/
structure ExcF (K : PySem.W.Frag) (mg : Str → Option Value) (x : Str) (C : Addr) : Prop where
  g : mg x = some (.ref C)
  x : PySem.W.excIn K C [.type "ValueError", .type "Exception", .type "BaseException", .type "object"] "ValueError.__new__" = true
  k : PySem.W.keepIn K (.ref C) = true
  b : PySem.W.subIn K (.ref C) (.type "BaseException") = some true
  t : PySem.W.typeIn K (.ref C) = some (.type "type")
  e : PySem.W.exmOne K (.ref C) (.ref C) = some true
theorem exm_selfD {K : PySem.W.Frag} {S : Addr} (h1 : PySem.W.subIn K (.ref S) (.type "BaseException") = some true) (h2 : PySem.W.isClsIn K S = true) (h3 : PySem.W.typeIn K (.ref S) = some (.type "type")) (h4 : PySem.W.subIn K (.ref S) (.ref S) = some true) :
    PySem.W.exmOne K (.ref S) (.ref S) = some true := by
  have e1 : (PySem.W.subIn K (.ref S) (.type "BaseException") == some true) = true := by rw [h1] <;> rfl
  have e2 : ((PySem.W.clsIn K S).isSome && PySem.W.typeIn K (.ref S) == some (.type "type")) = true := by
    have h2' : (PySem.W.clsIn K S).isSome = true := h2
    rw [h2', h3] <;> rfl
  show (if (PySem.W.subIn K (.ref S) (.type "BaseException") == some true) = true then (if ((PySem.W.clsIn K S).isSome && PySem.W.typeIn K (.ref S) == some (.type "type")) = true then PySem.W.subIn K (.ref S) (.ref S) else none) else none) = some true
  rw [if_pos e1, if_pos e2]
  exact h4
/-- an error of another class C, asked for the class S -/
theorem exm_otherD {K : PySem.W.Frag} {C S : Addr} {b : Bool} (h1 : PySem.W.subIn K (.ref S) (.type "BaseException") = some true) (h2 : PySem.W.isClsIn K S = true) (h3 : PySem.W.typeIn K (.ref S) = some (.type "type")) (h4 : PySem.W.subIn K (.ref C) (.ref S) = some b) :
    PySem.W.exmOne K (.ref C) (.ref S) = some b := by
  have e1 : (PySem.W.subIn K (.ref S) (.type "BaseException") == some true) = true := by rw [h1] <;> rfl
  have e2 : ((PySem.W.clsIn K S).isSome && PySem.W.typeIn K (.ref S) == some (.type "type")) = true := by
    have h2' : (PySem.W.clsIn K S).isSome = true := h2
    rw [h2', h3] <;> rfl
  show (if (PySem.W.subIn K (.ref S) (.type "BaseException") == some true) = true then (if ((PySem.W.clsIn K S).isSome && PySem.W.typeIn K (.ref S) == some (.type "type")) = true then PySem.W.subIn K (.ref C) (.ref S) else none) else none) = some b
  rw [if_pos e1, if_pos e2]
  exact h4
/-- isinstance(e, c) of a caught error: its class is told by the reading -/
def rIsX (K : PySem.W.Frag) (D a : Addr) (cls : Value) (d : Option Addr) : List V → Hp → VK → Prop := fun xs H Q => cls = .ref D ∧ d = none ∧ ∃ (c : Addr) (b : Bool), xs = [.ref a, .ref c] ∧ PySem.W.kitOne K (.ref D) (.ref c) = some b ∧ Q (.bl b) H
theorem call_isX {X : Cx} {a D : Addr} {oe : Obj} {pn : List (Addr × Obj)} {cls : Value} {d : Option Addr} (C : ExcC X.K D) (hz : Zc cls d oe) (hf : ∃ vs, oe.data = .fields vs) : CallR (X.suite a ((a, oe) :: pn)) (.builtin "isinstance") (rIsX X.K D a cls d) := by
  intro pins s σ H xs us Q I r h
  obtain ⟨rfl, rfl, c, b, e, k, q⟩ := h
  exact call_isE C hz hf pins s σ H xs us Q I r ⟨.ref c, .ref c, b, e, fun u hu => hu, k, q⟩
/-! ### C(..) within a try -/
section
variable {X : Cx} {CX : CXT} {k : Nat} {f C : Addr} {fd : FuncData} {ps : List Str} {sp : Sp} {E : L2.St → XK} {x : Str} {p pos : Pos} {e : Expr} {es : List Expr} {t : TA}
theorem run_makeS {pins : List (Addr × Obj)} {σ : L2.St} {H : Hp} {s : Shared} {Q : VK} {us : List Value} {vs : List V} (M : Mk X.K C f) (F : FnOk X.prog X.w X.K X.mg X.base CX k f fd ps sp) (hr : Room (k + 1) X.A) (hb : Binds X.K fd ps [])
    (hx : PassesAt CX X σ (E σ)) (I : Inv X pins σ H s) (r : Vals vs us)
    (h : ∀ x dx, H x = none → H dx = none → dx ≠ x → sp (.ref x :: vs) (upd (upd H dx (.own x)) x (.ins C dx [])) (fun v H2 => v = .non ∧ Q (.ref x) H2) (E σ)) :
    wpAny (model X.prog X.w) X.A (call (.ref C) us) (EP X pins σ Q) X.xe s := by
  have hq := h (s.heap.objs.size + 1) s.heap.objs.size (I.hok.fresh (Nat.le_succ _)) (I.hok.fresh (Nat.le_refl _)) (Nat.ne_of_lt (Nat.lt_succ_self _))
  have I2 := Inv.made (C := C) I
  have r2 : Vals (V.ref (s.heap.objs.size + 1) :: vs) (Value.ref (s.heap.objs.size + 1) :: us) := .cons rfl r
  have hl : ((Value.ref (s.heap.objs.size + 1) :: us) ++ []).length = ps.length := by
    have e := r2.length
    rw [F.len _ _ _ _ hq] at e
    rw [List.append_nil]
    exact e.symm
  have bt : BindsTo _ fd ⟨Value.ref (s.heap.objs.size + 1) :: us, []⟩ (ps.zip ((Value.ref (s.heap.objs.size + 1) :: us) ++ [])) := hb _ (Value.ref (s.heap.objs.size + 1) :: us) I2.kIn hl
  rw [List.append_nil] at bt
  refine wpAny_call (make_map (f := f) I.kIn M.makes M.init (beq_iff_eq.mp M.fn) (codeAny_mono (F.run _ X.stack _ _ ⟨Value.ref (s.heap.objs.size + 1) :: us, []⟩ (Value.ref (s.heap.objs.size + 1) :: us) _ _ (E σ) (hr.make C us [])
    (I2.env0.make C us []) bt r2 hq) fun r s' hq' => ?_))
  cases r with
  | error e => exact hx pins _ _ e s' I2 hq'
  | ok fl =>
    cases fl with
    | ret u =>
      obtain ⟨v, H', I3, rv, ev, q3⟩ := I2.after hq'
      subst ev
      exact ⟨rv, ⟨V.ref (s.heap.objs.size + 1), H', I3, rfl, q3⟩⟩
    | next => exact False.elim hq'
    | brk => exact False.elim hq'
    | cont => exact False.elim hq'
def tMakeS (C : Addr) (sp : Sp) (E : L2.St → XK) (t : TA) : TE := fun σ H Q => t σ H fun vs H1 => ∀ x dx, H1 x = none → H1 dx = none → dx ≠ x →
  sp (.ref x :: vs) (upd (upd H1 dx (.own x)) x (.ins C dx [])) (fun v H2 => v = .non ∧ Q (.ref x) H2) (E σ)
theorem pe_makeS (M : Mk X.K C f) (F : FnOk X.prog X.w X.K X.mg X.base CX k f fd ps sp) (hr : Room (k + 1) X.A) (hg : Gl X x) (hm : X.mg x = some (.ref C)) (hb : Binds X.K fd ps []) (hx : ∀ σ, PassesAt CX X σ (E σ))
    (ha : PA X (e :: es) t) (hdb : (x == ("__debug__" : Str)) = false := by decide) (he : starEach (e :: es) X.env = (false, eval e X.env) :: starEach es X.env := by rfl) (hpl : (backTo pos (starEach es X.env)).any (·.1) = false := by rfl) :
    PE X (.Call (.Name x p) (e :: es) [] pos) (tMakeS C sp E t) := by
  refine ⟨fun pins s σ H Q I h => ?_⟩
  refine wpAny_Call_Name_kw (ld_glob I hg hm ?_ hdb)
  refine PySem.W.callWith_K (h₀ := X.base) I.ok.mod.kin M.kp (thn (ha.run pos pins s σ H _ I h) fun us s1 ⟨vs, H1, I1, r, q⟩ => ⟨I1.kIn, ?_⟩) he hpl
  exact run_makeS M F hr hb (hx σ) I1 r q
/-! ### C(..) by a promise of the whole: conv turns it into that of __init__ at the new instance -/
def Conv (C : Addr) (sp rd : Sp) : Prop := ∀ vs H Q E, rd vs H Q E → ∀ x dx, H x = none → H dx = none → dx ≠ x → sp (.ref x :: vs) (upd (upd H dx (.own x)) x (.ins C dx [])) (fun v H2 => v = .non ∧ Q (.ref x) H2) E
def tMakeC (rd : Sp) (E : XK) (t : TA) : TE := fun σ H Q => t σ H fun vs H1 => rd vs H1 Q E
theorem pe_makeC {rd : Sp} {E : XK} (cv : Conv C sp rd) (M : Mk X.K C f) (F : FnOk X.prog X.w X.K X.mg X.base CX k f fd ps sp) (hr : Room (k + 1) X.A) (hg : Gl X x) (hm : X.mg x = some (.ref C)) (hb : Binds X.K fd ps []) (hx : Passes CX X E)
    (ha : PA X (e :: es) t) (hdb : (x == ("__debug__" : Str)) = false := by decide) (he : starEach (e :: es) X.env = (false, eval e X.env) :: starEach es X.env := by rfl) (hpl : (backTo pos (starEach es X.env)).any (·.1) = false := by rfl) :
    PE X (.Call (.Name x p) (e :: es) [] pos) (tMakeC rd E t) := by
  refine ⟨fun pins s σ H Q I h => ?_⟩
  refine wpAny_Call_Name_kw (ld_glob I hg hm ?_ hdb)
  refine PySem.W.callWith_K (h₀ := X.base) I.ok.mod.kin M.kp (thn (ha.run pos pins s σ H _ I h) fun us s1 ⟨vs, H1, I1, r, q⟩ => ⟨I1.kIn, ?_⟩) he hpl
  refine run_make (dvs := []) (ds := []) M F hr hb .nil hx I1 r ?_
  rw [List.append_nil]
  exact cv vs H1 Q E q
def tMakeSC (rd : Sp) (E : L2.St → XK) (t : TA) : TE := fun σ H Q => t σ H fun vs H1 => rd vs H1 Q (E σ)
theorem pe_makeSC {rd : Sp} (cv : Conv C sp rd) (M : Mk X.K C f) (F : FnOk X.prog X.w X.K X.mg X.base CX k f fd ps sp) (hr : Room (k + 1) X.A) (hg : Gl X x) (hm : X.mg x = some (.ref C)) (hb : Binds X.K fd ps []) (hx : ∀ σ, PassesAt CX X σ (E σ))
    (ha : PA X (e :: es) t) (hdb : (x == ("__debug__" : Str)) = false := by decide) (he : starEach (e :: es) X.env = (false, eval e X.env) :: starEach es X.env := by rfl) (hpl : (backTo pos (starEach es X.env)).any (·.1) = false := by rfl) :
    PE X (.Call (.Name x p) (e :: es) [] pos) (tMakeSC rd E t) := by
  refine ⟨fun pins s σ H Q I h => ?_⟩
  refine wpAny_Call_Name_kw (ld_glob I hg hm ?_ hdb)
  refine PySem.W.callWith_K (h₀ := X.base) I.ok.mod.kin M.kp (thn (ha.run pos pins s σ H _ I h) fun us s1 ⟨vs, H1, I1, r, q⟩ => ⟨I1.kIn, ?_⟩) he hpl
  exact run_makeS M F hr hb (hx σ) I1 r (cv vs H1 Q (E σ) q)
/-- what a caller's own wish takes of a callee that may raise -/
theorem passW {X : Cx} {W : WX} (tk : Takes X W) {E : XK} (hW : ∀ cls d σ H, E cls d H → W cls d σ H) : Passes (L2.CX X.prog X.w) X E := passes_call tk hW
end
theorem cxOf_K {CX : CXT} {P : Program} {w : World} {K : PySem.W.Frag} {mg : Str → Option Value} {base : Heap} {N : List Str} {qual : Str} {scope : Scope} {f : Addr} {cd : Value} {A : Around} {outer : List Env} {s : Shared} {H : Hp} {E : XK} :
    (cxOf CX P w K mg base N qual scope f cd A outer s H E).K = K := rfl
theorem nox_K {X : Cx} : X.nox.K = X.K := rfl
theorem tr_K {X : Cx} {pn : List (Addr × Obj)} {xe : Value → Shared → Prop} : (X.tr pn xe).K = X.K := rfl
theorem suite_K {X : Cx} {a : Addr} {pn : List (Addr × Obj)} : (X.suite a pn).K = X.K := rfl
end Dw

namespace Dw
open PySem PySem.Spec PyProof.Rows L2
/-! ### the laws' own small defs -/
def rTupleI : List V → Hp → VK → Prop := fun xs H Q => ∃ p ns, xs = [.ref p] ∧ H p = some (IL ns) ∧ ∀ l, H l = none → Q (.ref l) (upd H l (.tup (ns.map V.int)))
theorem call_tupleI {X : Cx} : CallR X (.type "tuple") rTupleI := CallR.imp call_tuple_of fun xs H Q h => by
  obtain ⟨p, ns, e, h1, q⟩ := h
  exact ⟨p, _, e, .inl ⟨.of h1, q⟩⟩
/-- an item of the script, or 0 -/
def spCell (K : PySem.W.Frag) : Sp := fun vs H Q _ => ∃ (a : Addr) (ns : List Int) (k : Int), vs = [.ref a, .int k] ∧ SqL K H a (ns.map V.int) ∧ 0 ≤ k ∧ ∀ z, Q (.int z) H
def D12 (ns : List Int) : Prop := ∀ z ∈ ns, 0 ≤ z ∧ z < 4096
def spDraws : Sp := fun vs H Q _ => ∃ (c n : Int), vs = [.int c, .int n] ∧ 0 ≤ n ∧ n ≤ 1000 ∧ ∀ r ns H', Same H H' → H r = none → H' r = some (IL ns) → (ns.length : Int) = n → D12 ns → Q (.ref r) H'
def spIsInt : Sp := fun vs H Q _ => ∃ i : Int, vs = [.int i] ∧ Q (.bl true) H
def spInts : Sp := fun vs H Q _ => ∃ (p : Addr) (ns : List Int), ((vs = [.ref p, .str "list"] ∧ H p = some (IL ns)) ∨ (vs = [.ref p, .str "tuple"] ∧ H p = some (.tup (ns.map V.int)))) ∧ Q (.bl true) H
def spIsList : Sp := fun vs H Q _ => ∃ (p u : Addr) (ns : List Int), vs = [.ref p, .ref u] ∧ H p = some (IL ns) ∧ H u = some (IL ns) ∧ Q (.bl true) H
def spIsTuple : Sp := fun vs H Q _ => ∃ (p u : Addr) (ns : List Int), vs = [.ref p, .ref u] ∧ H p = some (.tup (ns.map V.int)) ∧ H u = some (.tup (ns.map V.int)) ∧ Q (.bl true) H
def spIsNumber : Sp := fun vs H Q _ => ∃ i : Int, vs = [.int i, .int i] ∧ Q (.bl true) H
theorem getD_mem {ns : List Int} {k : Nat} (h : k < ns.length) : ns.getD k 0 ∈ ns := by
  rw [List.getD_eq_getElem?_getD, List.getElem?_eq_getElem h]
  exact List.getElem_mem h
theorem D12.get {ns : List Int} (h : D12 ns) {k : Nat} (hk : k < ns.length) : 0 ≤ ns.getD k 0 ∧ ns.getD k 0 < 4096 := h _ (getD_mem hk)
/-! ### reads -/
def readF (t : Addr) (r : Int) : List (Str × V) := [("intervals", .ref t), ("rest", .int r)]
theorem rf_int (t : Addr) (r : Int) : List.lookup ("intervals" : Str) (readF t r) = some (.ref t) := by
  unfold readF
  simp [List.lookup]
theorem rf_rest (t : Addr) (r : Int) : List.lookup ("rest" : Str) (readF t r) = some (.int r) := by
  have e : (("rest" : Str) == ("intervals" : Str)) = false := by decide +kernel
  unfold readF
  simp [List.lookup, e]
theorem rf_put (t : Addr) (r : Int) : putF "rest" (.int r) (putF "intervals" (.ref t) []) = readF t r := by
  have e : ¬ ("intervals" : Str) = "rest" := by decide +kernel
  show putF "rest" (.int r) [("intervals", .ref t)] = _
  unfold putF
  rw [if_neg e]
  rfl
def OkRead (ns : List Int) (rest : Int) : Prop := ns.length ≤ 60000 ∧ (∀ t ∈ ns, 1 ≤ t ∧ t ≤ 1000000) ∧ 0 ≤ rest ∧ rest ≤ 1000000
/-- a read at r -/
def RdAt (C : Addr) (H : Hp) (r : Addr) (ns : List Int) (rest : Int) : Prop := ∃ dx t, H r = some (.ins C dx (readF t rest)) ∧ H t = some (.tup (ns.map V.int))
theorem RdAt.same {C : Addr} {H H' : Hp} {r : Addr} {ns : List Int} {rest : Int} (h : RdAt C H r ns rest) (s : Same H H') : RdAt C H' r ns rest := by
  obtain ⟨dx, t, h1, h2⟩ := h
  exact ⟨dx, t, s _ _ h1, s _ _ h2⟩
def spReadInit (C CE : Addr) : Sp := fun vs H Q E => ∃ (x dx a : Addr) (ns : List Int) (rest : Int), vs = [.ref x, .ref a, .int rest] ∧ H x = some (.ins C dx []) ∧ H a = some (IL ns) ∧
  (OkRead ns rest → ∀ t H', H x ≠ none → SameB x H H' → H t = none → H' x = some (.ins C dx (readF t rest)) → H' t = some (.tup (ns.map V.int)) → Q .non H') ∧
  (¬ OkRead ns rest → ∀ H', Same H H' → E (.ref CE) none H')
/-- Read(intervals, rest) -/
def spRead (C CE : Addr) : Sp := fun vs H Q E => ∃ (a : Addr) (ns : List Int) (rest : Int), vs = [.ref a, .int rest] ∧ H a = some (IL ns) ∧
  (OkRead ns rest → ∀ r H', Same H H' → H r = none → RdAt C H' r ns rest → Q (.ref r) H') ∧ (¬ OkRead ns rest → ∀ H', Same H H' → E (.ref CE) none H')
theorem conv_read {C CE : Addr} : Conv C (spReadInit C CE) (spRead C CE) := by
  intro vs H Q E ⟨a, ns, rest, e, hA, h1, h2⟩ x dx nx nd ne
  subst e
  have s0 : Same H (upd H dx (.own x)) := same_new nd _
  have nx' : upd H dx (.own x) x = none := by rw [upd_ne ne.symm]; exact nx
  have s1 : Same (upd H dx (.own x)) (upd (upd H dx (.own x)) x (.ins C dx [])) := same_new nx' _
  have s := s0.trans s1
  refine ⟨x, dx, a, ns, rest, rfl, upd_same, s _ _ hA, fun ok t H' _ sb nt e1 e2 => ⟨rfl, h1 ok x H' (fun b o hb => sb b o (ne_of_none hb nx) (s b o hb)) nx ⟨dx, t, e1, e2⟩⟩, fun no H' sH => h2 no H' (s.trans sH)⟩
def okCell (c : Int) : Prop := 10 ≤ c ∧ c ≤ 1000
def spIsCell : Sp := fun vs H Q _ => ∃ c : Int, vs = [.int c] ∧ Q (.bl (decide (10 ≤ c) && decide (c ≤ 1000))) H
def spCheckCell (CE : Addr) : Sp := fun vs H Q E => ∃ c : Int, vs = [.int c] ∧ (okCell c → Q .non H) ∧ (¬ okCell c → E (.ref CE) none H)
/-! ### the fixed clock -/
/-- how many cells t ticks stand for -/
def nCells (t c : Int) : Int := (2 * t + c) / (2 * c)
def oneCells (n : Int) : List Int := List.replicate (n - 1).toNat 0 ++ [1]
def fixedZ (ns : List Int) (rest c : Int) : List Int := (ns.map fun t => oneCells (max 1 (nCells t c))).flatten ++ List.replicate (nCells rest c).toNat 0
def fixedP (ns : List Int) (c : Int) : List Int := (ns.map fun t => oneCells (max 1 (nCells t c))).flatten
theorem fixedP_more {ns : List Int} {i : Nat} {t c : Int} (h : ns[i]? = some t) : fixedP (ns.take (i + 1)) c = fixedP (ns.take i) c ++ oneCells (max 1 (nCells t c)) := by
  unfold fixedP
  rw [take_more h, List.map_append, List.flatten_append]
  simp
theorem oneCells_len {n : Int} (h : 1 ≤ n) : ((oneCells n).length : Int) = n := by
  unfold oneCells
  rw [List.length_append, List.length_replicate]
  show (((n - 1).toNat + 1 : Nat) : Int) = n
  omega
/-- the sum of the counts stays small -/
def Few (ns : List Int) (rest c : Int) : Prop := ((fixedP ns c).length : Int) + nCells rest c ≤ 16000000
def spFixed (C CE : Addr) : Sp := fun vs H Q E => ∃ (r : Addr) (c : Int) (ns : List Int) (rest : Int), vs = [.ref r, .int c] ∧ RdAt C H r ns rest ∧ OkRead ns rest ∧
  (okCell c → Few ns rest c ∧ ∀ u H', Same H H' → H u = none → H' u = some (IL (fixedZ ns rest c)) → Q (.ref u) H') ∧ (¬ okCell c → E (.ref CE) none H)
theorem take_len_le {α : Type} (l : List α) (i : Nat) : (l.take i).length ≤ l.length := by rw [List.length_take]; exact Nat.min_le_right _ _
theorem fixedP_take_len (ns : List Int) (c : Int) (i : Nat) : (fixedP (ns.take i) c).length ≤ (fixedP ns c).length := by
  have e : fixedP ns c = fixedP (ns.take i) c ++ fixedP (ns.drop i) c := by
    unfold fixedP
    rw [← List.flatten_append, ← List.map_append, List.take_append_drop]
  rw [e, List.length_append]
  omega
end Dw
namespace Dw
theorem ite_t {c : Bool} {A B : Prop} (hc : c = true) (h : A) : if c = true then A else B := by
  rw [if_pos hc]
  exact h
theorem ite_f {c : Bool} {A B : Prop} (hc : c = false) (h : B) : if c = true then A else B := by
  rw [hc, if_neg Bool.false_ne_true]
  exact h
end Dw
namespace Dw
open PySem PySem.Spec PyProof.Rows L2
theorem fld_of {K : PySem.W.Frag} {C dx r t : Addr} {rest : Int} {H : Hp} {i : Nat} {σ : L2.St} {Q : VK} (hσ : σ[i]? = some (some (.ref r))) (hR : H r = some (.ins C dx (readF t rest))) (cl : Cls K C) (na : NoAttr K C "intervals") (q : Q (.ref t) H) : tFld K (tVar i) "intervals" σ H Q :=
  ⟨_, hσ, r, C, dx, _, _, rfl, hR, cl, na, rf_int t rest, q⟩
theorem fld_rest {K : PySem.W.Frag} {C dx r t : Addr} {rest : Int} {H : Hp} {i : Nat} {σ : L2.St} {Q : VK} (hσ : σ[i]? = some (some (.ref r))) (hR : H r = some (.ins C dx (readF t rest))) (cl : Cls K C) (na : NoAttr K C "rest") (q : Q (.int rest) H) : tFld K (tVar i) "rest" σ H Q :=
  ⟨_, hσ, r, C, dx, _, _, rfl, hR, cl, na, rf_rest t rest, q⟩
theorem upd_self {H : Hp} {a : Addr} {o u : HO} : upd (upd H a o) a u a = some u := upd_same
theorem rep_zero (n : Int) : rep n [0] = List.replicate n.toNat 0 := rep_one n 0
theorem nCells_nn {t c : Int} (ht : 0 ≤ t) (hc : 0 < c) : 0 ≤ nCells t c := Int.ediv_nonneg (by omega) (by omega)
end Dw
namespace Dw
open PySem PySem.Spec PyProof.Rows L2
theorem oneCells_nat {n : Int} (h : 1 ≤ n) : (oneCells n).length = (n - 1).toNat + 1 := by
  unfold oneCells
  rw [List.length_append, List.length_replicate]
  rfl
end Dw
namespace Dw
theorem pick2 {P : Int → Prop} {a b : Int} (ha : P a) (hb : P b) {i : Nat} (h : i < 2) : P ([a, b].getD i 0) := by
  match i, h with
  | 0, _ => exact ha
  | 1, _ => exact hb
theorem pick3 {P : Int → Prop} {a b c : Int} (ha : P a) (hb : P b) (hc : P c) {i : Nat} (h : i < 3) : P ([a, b, c].getD i 0) := by
  match i, h with
  | 0, _ => exact ha
  | 1, _ => exact hb
  | 2, _ => exact hc
theorem pick4 {P : Int → Prop} {a b c d : Int} (ha : P a) (hb : P b) (hc : P c) (hd : P d) {i : Nat} (h : i < 4) : P ([a, b, c, d].getD i 0) := by
  match i, h with
  | 0, _ => exact ha
  | 1, _ => exact hb
  | 2, _ => exact hc
  | 3, _ => exact hd
end Dw
namespace Dw
open PySem PySem.Spec PyProof.Rows L2
theorem fixedP_len_le {c : Int} {M : Nat} (hM : 1 ≤ M) : ∀ {ns : List Int}, (∀ t ∈ ns, nCells t c ≤ (M : Int)) → (fixedP ns c).length ≤ ns.length * M
  | [], _ => Nat.zero_le _
  | t :: r, h => by
    have ih := fixedP_len_le (c := c) hM (ns := r) fun x hx => h x (List.mem_cons_of_mem _ hx)
    have ht := h t List.mem_cons_self
    have e : fixedP (t :: r) c = oneCells (max 1 (nCells t c)) ++ fixedP r c := by
      unfold fixedP
      rw [List.map_cons, List.flatten_cons]
    rw [e, List.length_append, oneCells_nat (by omega), List.length_cons, Nat.succ_mul]
    omega
theorem nCells_le {t c m : Int} (hc : 0 < c) (h : t ≤ m * c) : nCells t c ≤ m := by
  unfold nCells
  have : (2 * t + c) / (2 * c) < m + 1 := Int.ediv_lt_of_lt_mul (by omega) (by
    have e1 : (m + 1) * (2 * c) = 2 * (m * c) + 2 * c := by rw [Int.add_mul, Int.one_mul, Int.mul_left_comm]
    rw [e1]
    omega)
  omega
theorem oneCells_split (n : Int) : List.replicate (n - 1).toNat 0 ++ [1] = oneCells n := rfl
end Dw
namespace Dw
open PySem PySem.Spec PyProof.Rows L2
/-! ### cells as flux -/
def fluxT (c : Int) (s : List Int × Int) (b : Int) : List Int × Int := if b = 1 then (s.1 ++ [c * (s.2 + 1)], 0) else (s.1, s.2 + 1)
def fluxS (c : Int) (cells : List Int) : List Int × Int := cells.foldl (fluxT c) ([], 0)
theorem fluxS_more {c : Int} {cells : List Int} {i : Nat} {b : Int} (h : cells[i]? = some b) : fluxS c (cells.take (i + 1)) = fluxT c (fluxS c (cells.take i)) b := by
  unfold fluxS
  rw [take_more h, List.foldl_append]
  rfl
theorem fluxT_len {c : Int} (s : List Int × Int) (b : Int) : (fluxT c s b).1.length ≤ s.1.length + 1 ∧ 0 ≤ (fluxT c s b).2 ∨ s.2 < 0 := by
  unfold fluxT
  by_cases h : b = 1
  · rw [if_pos h]
    exact .inl ⟨by rw [List.length_append]; exact Nat.le_refl _, Int.le_refl 0⟩
  · rw [if_neg h]
    by_cases h2 : s.2 < 0
    · exact .inr h2
    · exact .inl ⟨Nat.le_succ _, by show 0 ≤ s.2 + 1; omega⟩
theorem fluxS_bound (c : Int) (cells : List Int) : ∀ i, i ≤ cells.length → (fluxS c (cells.take i)).1.length ≤ i ∧ 0 ≤ (fluxS c (cells.take i)).2 ∧ (fluxS c (cells.take i)).2 ≤ i
  | 0, _ => ⟨Nat.le_refl _, Int.le_refl _, Int.le_refl _⟩
  | i + 1, h => by
    obtain ⟨h1, h2, h3⟩ := fluxS_bound c cells i (by omega)
    have e : cells[i]? = some (cells[i]'(by omega)) := List.getElem?_eq_getElem (by omega)
    rw [fluxS_more e]
    unfold fluxT
    split
    · refine ⟨by rw [List.length_append]; show _ + 1 ≤ _; omega, Int.le_refl _, by show (0 : Int) ≤ _; omega⟩
    · exact ⟨by show (fluxS c (List.take i cells)).1.length ≤ i + 1; omega, by show 0 ≤ (fluxS c (List.take i cells)).2 + 1; omega, by show (fluxS c (List.take i cells)).2 + 1 ≤ ((i + 1 : Nat) : Int); omega⟩
def spFlux (C CE CR : Addr) : Sp := fun vs H Q E => ∃ (a : Addr) (c : Int) (cells : List Int), vs = [.ref a, .int c] ∧ H a = some (IL cells) ∧ cells.length ≤ 1000000 ∧
  (okCell c → OkRead (fluxS c cells).1 (c * (fluxS c cells).2) → ∀ r H', Same H H' → H r = none → RdAt C H' r (fluxS c cells).1 (c * (fluxS c cells).2) → Q (.ref r) H') ∧
  (okCell c → ¬ OkRead (fluxS c cells).1 (c * (fluxS c cells).2) → ∀ H', Same H H' → E (.ref CR) none H') ∧ (¬ okCell c → E (.ref CE) none H)
/-! ### ints that are only known to be of a kind -/
theorem lc_rangeP {R : Int → Prop} {lo : Int} {n : Nat} {j : Nat} {te : TE} {vs : List Nat} {σ : L2.St} {H1 : Hp} {D : Addr} {Qd : Hp → Prop} (hn : n ≤ 16777215) (hD : H1 D = none) (hw : ∀ v, wipe ((wipe σ vs).set j v) vs = wipe σ vs)
    (hte : ∀ i H3 (Q' : VK), i < n → Same H1 H3 → (∀ v H4, R v → Same H3 H4 → Q' (.int v) H4) → te ((wipe σ vs).set j (some (.int (lo + (i : Nat))))) H3 Q')
    (hd : ∀ ns H', ns.length = n → (∀ v ∈ ns, R v) → Same H1 H' → H' D = some (IL ns) → Qd H') :
    ∃ W : Nat → Nat → Hp → Prop, (∃ m, W 0 m (L2.upd H1 D (.lst []))) ∧ ∀ i m H, W i m H →
      ((Itr lo n).stop i H ∧ Qd H) ∨ ((Itr lo n).go i H ∧ ∃ Nx : Hp → Prop, (∀ H', Nx H' → ∃ m', m' < m ∧ W (i + 1) m' H') ∧ ∀ x H', (Itr lo n).yld i H x H' → gName j x (wipe σ vs) H' fun σ2 H2 => wipe σ2 vs = wipe σ vs ∧ tYes σ2 H2 fun b H3 =>
        if b = true then te σ2 H3 fun y H4 => ∃ acc, H4 D = some (.lst acc) ∧ acc.length < sizeLine ∧ Nx (L2.upd H4 D (.lst (acc ++ [y]))) else Nx H3) := by
  refine lc_range (lo := lo) (n := n) (fun i H' => Same H1 H' ∧ ∃ ns : List Int, H' D = some (IL ns) ∧ ns.length = i ∧ ∀ v ∈ ns, R v) ⟨same_new hD _, [], upd_same, rfl, fun v h => by cases h⟩ ?_ ?_
  · intro i H hi h
    obtain ⟨h1, ns, h3, h4, h5⟩ := h
    refine ⟨hw _, ?_⟩
    simp only [tYes, if_true]
    refine hte i H _ hi h1 fun v H4 hR hs => ?_
    have e : H4 D = some (IL ns) := hs D _ h3
    have ez : ns.map V.int ++ [V.int v] = (ns ++ [v]).map V.int := by rw [List.map_append]; rfl
    refine ⟨ns.map V.int, e, by rw [List.length_map, h4]; exact line_lt (by omega), fun b o hb => ?_, ns ++ [v], ?_, by rw [List.length_append, h4]; rfl, ?_⟩
    · rw [upd_ne (ne_of_none hb hD)]
      exact hs _ _ (h1 b o hb)
    · rw [upd_same, ez]
      rfl
    · intro x hx
      rcases List.mem_append.mp hx with hx | hx
      · exact h5 x hx
      · rw [List.mem_singleton.mp hx]; exact hR
  · intro H h
    obtain ⟨h1, ns, h3, h4, h5⟩ := h
    exact hd ns H h4 h5 h1 h3
end Dw

namespace Dw
open PySem PySem.Spec PyProof.Rows L2
/-! ### bits, FM, MFM -/
/-- a def of one list of ints that hands back a new one -/
def spL1 (C : List Int → Prop) (f : List Int → List Int) : Sp := fun vs H Q _ => ∃ (a : Addr) (ns : List Int), vs = [.ref a] ∧ H a = some (IL ns) ∧ C ns ∧ ∀ r H', Same H H' → H r = none → H' r = some (IL (f ns)) → Q (.ref r) H'
def CB (ns : List Int) : Prop := Bytes ns ∧ ns.length ≤ 100000
def bitsOf (ns : List Int) : List Int := (ns.map fun n => bits8 n.toNat).flatten
theorem bits8_len (v : Nat) : (bits8 v).length = 8 := rfl
theorem bitsOf_len : ∀ ns : List Int, (bitsOf ns).length = 8 * ns.length
  | [] => rfl
  | n :: r => by
    unfold bitsOf
    rw [List.map_cons, List.flatten_cons, List.length_append, bits8_len]
    have := bitsOf_len r
    unfold bitsOf at this
    rw [this, List.length_cons]
    omega
theorem bitsOf_more {ns : List Int} {i v : Nat} (h : ns[i]? = some (v : Int)) : bitsOf (ns.take (i + 1)) = bitsOf (ns.take i) ++ bits8 v := by
  unfold bitsOf
  rw [take_more h, List.map_append, List.flatten_append]
  simp
/-- each bit behind a 1 -/
def fmZ (bs : List Int) : List Int := (bs.map fun b => [1, b]).flatten
theorem fmZ_len : ∀ bs : List Int, (fmZ bs).length = 2 * bs.length
  | [] => rfl
  | n :: r => by
    unfold fmZ
    rw [List.map_cons, List.flatten_cons, List.length_append]
    have := fmZ_len r
    unfold fmZ at this
    rw [this, List.length_cons]
    show 2 + 2 * r.length = 2 * (r.length + 1)
    omega
theorem fmZ_more {bs : List Int} {i : Nat} {b : Int} (h : bs[i]? = some b) : fmZ (bs.take (i + 1)) = fmZ (bs.take i) ++ [1, b] := by
  unfold fmZ
  rw [take_more h, List.map_append, List.flatten_append]
  simp
def clk (last b : Int) : Int := if last = 0 ∧ b = 0 then 1 else 0
/-- the bit behind a beginning of a list -/
def lastOf (before : Int) (bs : List Int) : Int := bs.getLastD before
def mfmZ (before : Int) (bs : List Int) : List Int := (List.range bs.length).flatMap fun i => [clk (lastOf before (bs.take i)) (bs.getD i 0), bs.getD i 0]
/-- the loop's way: cells so far -/
def mfmF (before : Int) : List Int → List Int
  | [] => []
  | b :: r => clk before b :: b :: mfmF b r
theorem mfmF_len : ∀ (before : Int) (bs : List Int), (mfmF before bs).length = 2 * bs.length
  | _, [] => rfl
  | _, b :: r => by
    show (mfmF b r).length + 1 + 1 = 2 * (r.length + 1)
    rw [mfmF_len b r]
    omega
theorem mfmF_append : ∀ (before : Int) (bs cs : List Int), mfmF before (bs ++ cs) = mfmF before bs ++ mfmF (lastOf before bs) cs
  | _, [], _ => rfl
  | before, b :: r, cs => by
    show clk before b :: b :: mfmF b (r ++ cs) = clk before b :: b :: (mfmF b r ++ mfmF (lastOf before (b :: r)) cs)
    rw [mfmF_append b r cs]
    have : lastOf before (b :: r) = lastOf b r := by
      unfold lastOf
      cases r with
      | nil => rfl
      | cons x t => simp [List.getLastD]
    rw [this]
theorem mfmF_more {before : Int} {bs : List Int} {i : Nat} {b : Int} (h : bs[i]? = some b) : mfmF before (bs.take (i + 1)) = mfmF before (bs.take i) ++ [clk (lastOf before (bs.take i)) b, b] := by
  rw [take_more h, mfmF_append]
  rfl
theorem lastOf_more {before : Int} {bs : List Int} {i : Nat} {b : Int} (h : bs[i]? = some b) : lastOf before (bs.take (i + 1)) = b := by
  rw [take_more h]
  unfold lastOf
  simp
def spClk : Sp := fun vs H Q _ => ∃ a b : Int, vs = [.int a, .int b] ∧ Q (.int (clk a b)) H
def spMfm : Sp := fun vs H Q _ => ∃ (a : Addr) (ns : List Int) (b : Int), vs = [.ref a, .int b] ∧ H a = some (IL ns) ∧ CB ns ∧ ∀ r H', Same H H' → H r = none → H' r = some (IL (mfmF b (bitsOf ns))) → Q (.ref r) H'
theorem bit_div (v k : Nat) : Builtin.bitAnd ((v : Int) / 2 ^ k) 1 = ((v / 2 ^ k % 2 : Nat) : Int) := by rw [zdiv, and1]
end Dw
namespace Dw
open PySem PySem.Spec PyProof.Rows L2
def Bits (bs : List Int) : Prop := ∀ b ∈ bs, b = 0 ∨ b = 1
theorem bits8_bits (v : Nat) : Bits (bits8 v) := by
  intro b hb
  unfold bits8 at hb
  simp only [List.mem_cons, List.not_mem_nil, or_false] at hb
  rcases hb with h | h | h | h | h | h | h | h <;> (subst h; omega)
theorem bitsOf_bits : ∀ ns : List Int, Bits (bitsOf ns)
  | [] => fun b hb => by cases hb
  | n :: r => fun b hb => by
    unfold bitsOf at hb
    rw [List.map_cons, List.flatten_cons] at hb
    rcases List.mem_append.mp hb with hb | hb
    · exact bits8_bits _ b hb
    · exact bitsOf_bits r b hb
theorem bits_at {bs : List Int} {i : Nat} {z : Int} (h : Bits bs) (hz : bs[i]? = some z) : z = 0 ∨ z = 1 := h z (List.mem_of_getElem? hz)
theorem lastOf_bit {before : Int} {bs : List Int} (h0 : before = 0 ∨ before = 1) (h : Bits bs) : lastOf before bs = 0 ∨ lastOf before bs = 1 := by
  unfold lastOf
  cases bs with
  | nil => exact h0
  | cons b r =>
    have : (b :: r).getLastD before ∈ (b :: r) := by
      rw [List.getLastD_cons]
      cases r with
      | nil => exact List.mem_cons_self
      | cons x t =>
        have e : (x :: t).getLastD b = (x :: t).getLast (List.cons_ne_nil _ _) := by simp [List.getLastD]
        rw [e]
        exact List.mem_cons_of_mem _ (List.getLast_mem _)
    exact h _ this
theorem take_bits {bs : List Int} {k : Nat} (h : Bits bs) : Bits (bs.take k) := fun b hb => h b (List.mem_of_mem_take hb)
/-- int(last + bit == 0) -/
theorem clk_sum {a b : Int} (ha : a = 0 ∨ a = 1) (hb : b = 0 ∨ b = 1) : (if a + b = 0 then (1 : Int) else 0) = clk a b := by
  unfold clk
  rcases ha with rfl | rfl <;> rcases hb with rfl | rfl <;> decide
theorem dtl3 {H : Hp} {x y z : V} {d e f : PyData} (h1 : Dt H x d) (h2 : Dt H y e) (h3 : Dt H z f) : DtAll H [x, y, z] [d, e, f] := .cons h1 (.cons h2 (.cons h3 .nil))
theorem shaped_list3 {d e f : PyData} (h1 : d.canLay0 = true) (h2 : e.canLay0 = true) (h3 : f.canLay0 = true) (k1 : d.depth ≤ 6) (k2 : e.depth ≤ 6) (k3 : f.depth ≤ 6) : SeqAt.shaped (.list [d, e, f]) = true ∧ (PyData.list [d, e, f]).depth < 8 := by
  unfold SeqAt.shaped
  simp only [PyData.canLay0, PyData.canLayAll0, PyData.depth, PyData.depthAll, h1, h2, h3, Bool.and_true, Bool.true_and, decide_eq_true_eq]
  have : max d.depth (max e.depth (max f.depth 0)) ≤ 6 := by
    rw [Nat.max_le, Nat.max_le, Nat.max_le]
    exact ⟨k1, k2, k3, Nat.zero_le _⟩
  exact ⟨decide_eq_true (Nat.le_trans (Nat.succ_le_succ this) (by decide)), Nat.lt_of_le_of_lt (Nat.succ_le_succ this) (by decide)⟩
theorem lay_ints (ns : List Int) : (PyData.list (ns.map PyData.int)).canLay0 = true := by rw [PyData.canLay0]; exact canLay_ints ns
theorem dep6_ints (ns : List Int) : (PyData.list (ns.map PyData.int)).depth ≤ 6 := by
  have := depthAll_ints ns
  simp only [PyData.depth]
  omega
end Dw
namespace Dw
open PySem PySem.Spec PyProof.Rows L2
theorem IL_ne {H : Hp} {a b x : Addr} {ns : List Int} {r : List V} (h1 : H a = some (IL ns)) (h2 : H b = some (.lst (.ref x :: r))) : a ≠ b := by
  refine ne_of h1 h2 fun e => ?_
  unfold IL at e
  injection e with e
  cases ns with
  | nil => cases e
  | cons x t => rw [List.map_cons] at e; injection e with e _; cases e
theorem Pool.ne_len {H : Hp} {p q b : Addr} {xs : List V} (h : Pool H p q) (h2 : H b = some (.lst xs)) (hx : xs.length ≠ 5) : p ≠ b := by
  obtain ⟨ns, a, b', c, d, e, _⟩ := h
  refine ne_of e h2 fun z => hx ?_
  unfold PoolL at z
  injection z with z
  rw [← z]
  rfl
theorem Pool.ne_ref {H : Hp} {p q b x : Addr} {r : List V} (h : Pool H p q) (h2 : H b = some (.lst (.ref x :: r))) : q ≠ b := by
  obtain ⟨ns, a, b', c, d, e, e2, _⟩ := h
  exact IL_ne (ns := ns) e2 h2
end Dw

namespace Dw
open PySem PySem.Spec PyProof.Rows L2
theorem nCells_mul {c m e : Int} (hc : 0 < c) (h1 : -c < 2 * e) (h2 : 2 * e < c) : nCells (c * m + e) c = m := by
  unfold nCells
  have e1 : 2 * (c * m + e) + c = (2 * e + c) + m * (2 * c) := by
    have : m * (2 * c) = 2 * (c * m) := by rw [Int.mul_left_comm, Int.mul_comm m c]
    rw [this]
    omega
  rw [e1, Int.add_mul_ediv_right _ _ (by omega), Int.ediv_eq_zero_of_lt (by omega) (by omega)]
  omega
theorem fixedP_congr {c : Int} {ns ms : List Int} (h : ns.map (fun t => nCells t c) = ms.map (fun t => nCells t c)) : fixedP ns c = fixedP ms c := by
  have e : ∀ l : List Int, fixedP l c = ((l.map fun t => nCells t c).map fun n => oneCells (max 1 n)).flatten := by
    intro l
    unfold fixedP
    rw [List.map_map]
    rfl
  rw [e, e, h]
theorem fixedP_append (ns ms : List Int) (c : Int) : fixedP (ns ++ ms) c = fixedP ns c ++ fixedP ms c := by
  unfold fixedP
  rw [List.map_append, List.flatten_append]
theorem replicate_snoc0 (n : Nat) : List.replicate (n + 1) (0 : Int) = List.replicate n 0 ++ [0] := by
  rw [List.replicate_succ']
/-- the clock gives the cells again, behind any beginning -/
theorem flux_back {c : Int} (hc : 0 < c) {cells : List Int} (hb : Bits cells) : ∀ i, i ≤ cells.length →
    fixedP (fluxS c (cells.take i)).1 c ++ List.replicate (fluxS c (cells.take i)).2.toNat 0 = cells.take i ∧ (∀ t ∈ (fluxS c (cells.take i)).1, ∃ m : Int, 1 ≤ m ∧ m ≤ i ∧ t = c * m)
  | 0, _ => ⟨rfl, fun t h => by cases h⟩
  | i + 1, h => by
    obtain ⟨h1, h2⟩ := flux_back hc hb i (by omega)
    have hbd := fluxS_bound c cells i (by omega)
    have e : cells[i]? = some (cells[i]'(by omega)) := List.getElem?_eq_getElem (by omega)
    have hbit := bits_at hb e
    generalize cells[i]'(by omega) = b at e hbit
    rw [fluxS_more e, take_more e]
    generalize fluxS c (cells.take i) = s at h1 h2 hbd
    obtain ⟨is, n⟩ := s
    simp only at h1 h2 hbd ⊢
    unfold fluxT
    rcases hbit with rfl | rfl
    · rw [if_neg (by decide)]
      refine ⟨?_, fun t ht => ?_⟩
      · have : (n + 1).toNat = n.toNat + 1 := by omega
        show fixedP is c ++ List.replicate (n + 1).toNat 0 = _
        rw [this, replicate_snoc0, ← List.append_assoc, h1]
      · obtain ⟨m, m1, m2, m3⟩ := h2 t ht
        exact ⟨m, m1, by omega, m3⟩
    · rw [if_pos rfl]
      have hn : nCells (c * (n + 1)) c = n + 1 := by
        have := nCells_mul (c := c) (m := n + 1) (e := 0) hc (by omega) (by omega)
        rw [Int.add_zero] at this
        exact this
      refine ⟨?_, fun t ht => ?_⟩
      · show fixedP (is ++ [c * (n + 1)]) c ++ List.replicate (0 : Int).toNat 0 = _
        have e1 : fixedP [c * (n + 1)] c = List.replicate n.toNat 0 ++ [1] := by
          unfold fixedP
          rw [List.map_cons, List.map_nil, List.flatten_cons, List.flatten_nil, List.append_nil, hn]
          have : max 1 (n + 1) = n + 1 := by omega
          rw [this]
          unfold oneCells
          have : (n + 1 - 1).toNat = n.toNat := by omega
          rw [this]
        rw [fixedP_append, e1, ← h1]
        simp
      · rcases List.mem_append.mp ht with ht | ht
        · obtain ⟨m, m1, m2, m3⟩ := h2 t ht
          exact ⟨m, m1, by omega, m3⟩
        · rw [List.mem_singleton.mp ht]
          exact ⟨n + 1, by omega, by omega, rfl⟩
theorem flux_back_all {c : Int} (hc : 0 < c) {cells : List Int} (hb : Bits cells) :
    fixedP (fluxS c cells).1 c ++ List.replicate (fluxS c cells).2.toNat 0 = cells ∧ (∀ t ∈ (fluxS c cells).1, ∃ m : Int, 1 ≤ m ∧ m ≤ cells.length ∧ t = c * m) := by
  have h := flux_back hc hb cells.length (Nat.le_refl _)
  rw [List.take_length] at h
  exact h
theorem flux_bound_all (c : Int) (cells : List Int) : (fluxS c cells).1.length ≤ cells.length ∧ 0 ≤ (fluxS c cells).2 ∧ (fluxS c cells).2 ≤ cells.length := by
  have h := fluxS_bound c cells cells.length (Nat.le_refl _)
  rw [List.take_length] at h
  exact h
theorem fixedP_len_bits {c : Int} (hc : 0 < c) {cells : List Int} (hb : Bits cells) : (fixedP (fluxS c cells).1 c).length ≤ cells.length := by
  have h := (flux_back_all hc hb).1
  have e : (fixedP (fluxS c cells).1 c ++ List.replicate (fluxS c cells).2.toNat 0).length = cells.length := by rw [h]
  rw [List.length_append] at e
  omega
end Dw
namespace Dw
open PySem PySem.Spec PyProof.Rows L2
/-! ### the following clock -/
def folN (t p : Int) : Int := max 1 ((32 * t + p) / (2 * p))
def folP (t p c : Int) : Int := min (max (p + (16 * t - folN t p * p) / (8 * folN t p)) (12 * c)) (20 * c)
def folT (c : Int) (s : Int × List Int) (t : Int) : Int × List Int := (folP t s.1 c, s.2 ++ oneCells (folN t s.1))
def folS (c : Int) (ns : List Int) : Int × List Int := ns.foldl (folT c) (16 * c, [])
def folR (rest p : Int) : Int := (32 * rest + p) / (2 * p)
def followZ (ns : List Int) (rest c : Int) : List Int := (folS c ns).2 ++ List.replicate (folR rest (folS c ns).1).toNat 0
theorem folS_more {c : Int} {ns : List Int} {i : Nat} {t : Int} (h : ns[i]? = some t) : folS c (ns.take (i + 1)) = folT c (folS c (ns.take i)) t := by
  unfold folS
  rw [take_more h, List.foldl_append]
  rfl
theorem folS_period {c : Int} (hc : 0 < c) (ns : List Int) : 12 * c ≤ (folS c ns).1 ∧ (folS c ns).1 ≤ 20 * c := by
  have : ∀ (l : List Int) (s : Int × List Int), 12 * c ≤ s.1 → s.1 ≤ 20 * c → 12 * c ≤ (l.foldl (folT c) s).1 ∧ (l.foldl (folT c) s).1 ≤ 20 * c := by
    intro l
    induction l with
    | nil => intro s h1 h2; exact ⟨h1, h2⟩
    | cons t r ih =>
      intro s _ _
      refine ih _ ?_ ?_
      · show 12 * c ≤ folP t s.1 c
        unfold folP
        omega
      · show folP t s.1 c ≤ 20 * c
        unfold folP
        omega
  exact this ns _ (by show 12 * c ≤ 16 * c; omega) (by show 16 * c ≤ 20 * c; omega)
theorem folS_len {c : Int} (ns : List Int) (i : Nat) : (folS c (ns.take i)).2.length ≤ (folS c ns).2.length := by
  have : ∀ (l : List Int) (s : Int × List Int), s.2.length ≤ (l.foldl (folT c) s).2.length := by
    intro l
    induction l with
    | nil => intro s; exact Nat.le_refl _
    | cons t r ih =>
      intro s
      refine Nat.le_trans ?_ (ih _)
      show s.2.length ≤ (s.2 ++ oneCells _).length
      rw [List.length_append]
      omega
  have e : folS c ns = (ns.drop i).foldl (folT c) (folS c (ns.take i)) := by
    unfold folS
    rw [← List.foldl_append, List.take_append_drop]
  rw [e]
  exact this _ _
theorem folN_le {t p m : Int} (hp : 0 < p) (h1 : 1 ≤ m) (h : 32 * t + p < (m + 1) * (2 * p)) : folN t p ≤ m := by
  unfold folN
  have : (32 * t + p) / (2 * p) < m + 1 := Int.ediv_lt_of_lt_mul (by omega) h
  omega
def FewF (ns : List Int) (rest c : Int) : Prop := ((folS c ns).2.length : Int) + folR rest (folS c ns).1 ≤ 16000000
theorem folR_nn {t p : Int} (ht : 0 ≤ t) (hp : 0 < p) : 0 ≤ folR t p := Int.ediv_nonneg (by omega) (by omega)
def spFollow (C CE : Addr) : Sp := fun vs H Q E => ∃ (r : Addr) (c : Int) (ns : List Int) (rest : Int), vs = [.ref r, .int c] ∧ RdAt C H r ns rest ∧ OkRead ns rest ∧
  (okCell c → FewF ns rest c ∧ ∀ u H', Same H H' → H u = none → H' u = some (IL (followZ ns rest c)) → Q (.ref u) H') ∧ (¬ okCell c → E (.ref CE) none H)
end Dw
namespace Dw
theorem folS_len_le {c : Int} (hc : 0 < c) {ns : List Int} (h : ∀ t ∈ ns, t ≤ 6 * c) : (folS c ns).2.length ≤ 8 * ns.length := by
  have : ∀ (l : List Int) (s : Int × List Int), (∀ t ∈ l, t ≤ 6 * c) → 12 * c ≤ s.1 → s.1 ≤ 20 * c → (l.foldl (folT c) s).2.length ≤ s.2.length + 8 * l.length := by
    intro l
    induction l with
    | nil => intro s _ _ _; exact Nat.le_refl _
    | cons t r ih =>
      intro s hl h1 h2
      have ht := hl t List.mem_cons_self
      have hN : folN t s.1 ≤ 8 := folN_le (by omega) (by decide) (by omega)
      have hN1 : 1 ≤ folN t s.1 := by unfold folN; omega
      have := ih (folT c s t) (fun x hx => hl x (List.mem_cons_of_mem _ hx)) (by show 12 * c ≤ folP t s.1 c; unfold folP; omega) (by show folP t s.1 c ≤ 20 * c; unfold folP; omega)
      refine Nat.le_trans this ?_
      show (s.2 ++ oneCells (folN t s.1)).length + _ ≤ _
      rw [List.length_append, oneCells_nat hN1, List.length_cons]
      omega
  have := this ns (16 * c, []) h (by show 12 * c ≤ 16 * c; omega) (by show 16 * c ≤ 20 * c; omega)
  have e : ([] : List Int).length + 8 * ns.length = 8 * ns.length := by simp
  rw [← e]
  exact this
end Dw

namespace Dw
open PySem PySem.Spec PyProof.Rows L2
/-! ### loops under a name, so that a symbolic run stops in front of them -/
def LcW (J : It) (g : TG) (tt : TT) (te : TE) (vs : List Nat) (σ : L2.St) (H1 : Hp) (D : Addr) (Qd : Hp → Prop) : Prop :=
  ∃ W : Nat → Nat → Hp → Prop, (∃ m, W 0 m (L2.upd H1 D (.lst []))) ∧ ∀ i m H, W i m H →
    (J.stop i H ∧ Qd H) ∨ (J.go i H ∧ ∃ Nx : Hp → Prop, (∀ H', Nx H' → ∃ m', m' < m ∧ W (i + 1) m' H') ∧ ∀ x H', J.yld i H x H' → g x (wipe σ vs) H' fun σ2 H2 => wipe σ2 vs = wipe σ vs ∧ tt σ2 H2 fun b H3 =>
        if b = true then te σ2 H3 fun y H4 => ∃ acc, H4 D = some (.lst acc) ∧ acc.length < sizeLine ∧ Nx (L2.upd H4 D (.lst (acc ++ [y]))) else Nx H3)
theorem tLc_eq {wi : TI} {g : TG} {tt : TT} {te : TE} {vs : List Nat} {σ : L2.St} {H : Hp} {Q : VK} :
    tLc wi g tt te vs σ H Q = wi σ H fun J H1 => ∀ D, H1 D = none → LcW J g tt te vs σ H1 D fun H' => Q (.ref D) H' := rfl
def ForW (J : It) (g : TG) (tb : TS) (D : Ends) (σ : L2.St) (H1 : Hp) : Prop := ∃ W : Nat → Nat → L2.St → Hp → Prop, (∃ m, W 0 m σ H1) ∧ ∀ i m σ H, W i m σ H →
  (J.stop i H ∧ D.nx σ H) ∨ (J.go i H ∧ ∃ N : L2.St → Hp → Prop, (∀ σ' H', N σ' H' → ∃ m', m' < m ∧ W (i + 1) m' σ' H') ∧ ∀ x H', J.yld i H x H' → g x σ H' fun σ2 H2 => tb { D with nx := N, ct := N, bk := D.nx } σ2 H2)
theorem tFor_eq {wi : TI} {g : TG} {tb : TS} {D : Ends} {σ : L2.St} {H : Hp} : tFor wi g tb D σ H = wi σ H fun J H1 => ForW J g tb D σ H1 := rfl
end Dw

namespace Dw
open PySem PySem.Spec PyProof.Rows L2
/-! ### lists of lists of ints -/
def RowsAt (H : Hp) (p : Addr) (rs : List (List Int)) : Prop := ∃ as : List Addr, H p = some (.lst (as.map V.ref)) ∧ as.length = rs.length ∧ ∀ i a, as[i]? = some a → H a = some (IL (rs.getD i []))
theorem RowsAt.same {H H' : Hp} {p : Addr} {rs : List (List Int)} (h : RowsAt H p rs) (s : Same H H') : RowsAt H' p rs := by
  obtain ⟨as, h1, h2, h3⟩ := h
  exact ⟨as, s _ _ h1, h2, fun i a e => s _ _ (h3 i a e)⟩
theorem refs_at {as : List Addr} {i : Nat} {x : V} (h : (as.map V.ref)[i]? = some x) : ∃ a, as[i]? = some a ∧ x = .ref a := by
  rw [List.getElem?_map] at h
  cases hh : as[i]? with
  | none => rw [hh] at h; cases h
  | some a => rw [hh] at h; exact ⟨a, rfl, (Option.some.inj h).symm⟩
/-- the lists of lists as data -/
def LL (rs : List (List Int)) : List PyData := rs.map fun r => .list (r.map PyData.int)
theorem dp_LL {K : PySem.W.Frag} {H : Hp} : ∀ (as : List Addr) (rs : List (List Int)), as.length = rs.length → (∀ i a, as[i]? = some a → H a = some (IL (rs.getD i []))) → DpAll K H (as.map V.ref) (LL rs)
  | [], [], _, _ => .nil
  | a :: as, r :: rs, hl, h => .cons (dp_IL (h 0 a rfl)) (dp_LL as rs (by simpa using hl) fun i a e => h (i + 1) a e)
  | [], _ :: _, hl, _ => by simp at hl
  | _ :: _, [], hl, _ => by simp at hl
theorem RowsAt.dp {K : PySem.W.Frag} {H : Hp} {p : Addr} {rs : List (List Int)} (h : RowsAt H p rs) : Dp K H (.ref p) (.list (LL rs)) := by
  obtain ⟨as, h1, h2, h3⟩ := h
  exact .lst (.of h1) (dp_LL as rs h2 h3)
theorem dt_LL {H : Hp} : ∀ (as : List Addr) (rs : List (List Int)), as.length = rs.length → (∀ i a, as[i]? = some a → H a = some (IL (rs.getD i []))) → DtAll H (as.map V.ref) (LL rs)
  | [], [], _, _ => .nil
  | a :: as, r :: rs, hl, h => .cons (dt_IL (h 0 a rfl)) (dt_LL as rs (by simpa using hl) fun i a e => h (i + 1) a e)
  | [], _ :: _, hl, _ => by simp at hl
  | _ :: _, [], hl, _ => by simp at hl
theorem RowsAt.dt {H : Hp} {p : Addr} {rs : List (List Int)} (h : RowsAt H p rs) : Dt H (.ref p) (.list (LL rs)) := by
  obtain ⟨as, h1, h2, h3⟩ := h
  exact .lst h1 (dt_LL as rs h2 h3)
theorem LL_lay : ∀ rs : List (List Int), PyData.canLayAll0 (LL rs) = true
  | [] => rfl
  | r :: rs => by
    show PyData.canLayAll0 (.list (r.map PyData.int) :: LL rs) = true
    rw [PyData.canLayAll0, LL_lay rs, PyData.canLay0, canLay_ints r]
    rfl
theorem LL_depth : ∀ rs : List (List Int), PyData.depthAll (LL rs) ≤ 3
  | [] => by decide
  | r :: rs => by
    show PyData.depthAll (.list (r.map PyData.int) :: LL rs) ≤ 3
    have h1 := LL_depth rs
    have h2 := Dw.depthAll_ints r
    simp only [PyData.depthAll, PyData.depth]
    omega
theorem shaped_LL (rs : List (List Int)) : SeqAt.shaped (.list (LL rs)) = true := by
  have h1 := LL_lay rs
  have h2 := LL_depth rs
  unfold SeqAt.shaped
  rw [Bool.and_eq_true]
  refine ⟨by rw [PyData.canLay0]; exact h1, decide_eq_true ?_⟩
  simp only [PyData.depth]
  omega
theorem eqvAll_LL : ∀ rs ts : List (List Int), PyData.eqvAll (LL rs) (LL ts) = decide (rs = ts)
  | [], [] => by
    show PyData.eqvAll [] [] = _
    rw [PyData.eqvAll]
    rfl
  | [], _ :: _ => by
    show PyData.eqvAll [] (_ :: _) = _
    rw [PyData.eqvAll, decide_eq_false (fun e => by cases e)]
  | _ :: _, [] => by
    show PyData.eqvAll (_ :: _) [] = _
    rw [PyData.eqvAll, decide_eq_false (fun e => by cases e)]
  | r :: rs, t :: ts => by
    show PyData.eqvAll (.list (r.map PyData.int) :: LL rs) (.list (t.map PyData.int) :: LL ts) = _
    rw [PyData.eqvAll, eqvAll_LL rs ts, PyData.eqv, eqvAll_ints]
    by_cases h : r = t
    · subst h
      by_cases h2 : rs = ts
      · subst h2; simp
      · rw [decide_eq_false h2, decide_eq_false (fun e => h2 (List.cons.inj e).2)]; simp
    · rw [decide_eq_false h, decide_eq_false (fun e => h (List.cons.inj e).1)]
      rfl
theorem RowsAt.push {H : Hp} {p u : Addr} {as : List Addr} {rs : List (List Int)} {r : List Int} (h1 : H p = some (.lst (as.map V.ref))) (h2 : as.length = rs.length) (h3 : ∀ i a, as[i]? = some a → H a = some (IL (rs.getD i []))) (hu : H u = some (IL r)) (n : u ≠ p) :
    RowsAt (upd H p (.lst (as.map V.ref ++ [.ref u]))) p (rs ++ [r]) := by
  refine ⟨as ++ [u], by rw [upd_same, List.map_append]; rfl, by rw [List.length_append, List.length_append, h2]; rfl, fun i a e => ?_⟩
  by_cases hi : i < as.length
  · rw [List.getElem?_append_left hi] at e
    have e3 := h3 i a e
    have na : a ≠ p := fun q => by
      subst q
      rw [h1] at e3
      unfold IL at e3
      injection e3 with e3
      injection e3 with e3
      cases as with
      | nil => simp at hi
      | cons b bs =>
        cases hr : rs.getD i [] with
        | nil => rw [hr] at e3; cases e3
        | cons c cs => rw [hr] at e3; cases e3
    rw [upd_ne na, e3]
    rw [List.getD_eq_getElem?_getD, List.getD_eq_getElem?_getD, List.getElem?_append_left (by omega)]
  · have hi' : i = as.length := by
      have := (List.getElem?_eq_some_iff.mp e).1
      rw [List.length_append] at this
      simp at this
      omega
    subst hi'
    rw [List.getElem?_append_right (Nat.le_refl _), Nat.sub_self] at e
    cases e
    rw [upd_ne n, hu, List.getD_eq_getElem?_getD, List.getElem?_append_right (by omega), h2, Nat.sub_self]
    rfl
/-- all but P stands: rows that are not at P -/
theorem RowsAt.sameB {P : Addr} {H H' : Hp} {p : Addr} {rs : List (List Int)} (h : RowsAt H p rs) (s : SameB P H H') (n : p ≠ P) (hn : ∀ ns, H P ≠ some (IL ns)) : RowsAt H' p rs := by
  obtain ⟨as, h1, h2, h3⟩ := h
  exact ⟨as, s _ _ n h1, h2, fun i a e => s _ _ (fun q => by subst q; exact hn _ (h3 i _ e)) (h3 i a e)⟩
theorem Pool.nIL {H : Hp} {p q : Addr} (h : Pool H p q) (ns : List Int) : H p ≠ some (IL ns) := by
  obtain ⟨ss, a, b, c, d, h1, _⟩ := h
  rw [h1]
  intro e
  unfold PoolL IL at e
  injection e with e
  injection e with e
  cases ns with
  | nil => cases e
  | cons n r => rw [List.map_cons] at e; injection e with e _; cases e
theorem RowsAt.pool {H H' : Hp} {P q p : Addr} {rs : List (List Int)} (h : RowsAt H p rs) (hP : Pool H P q) (s : SameB P H H') (n : p ≠ P) : RowsAt H' p rs := h.sameB s n hP.nIL
theorem RowsAt.len {H : Hp} {p : Addr} {rs : List (List Int)} (h : RowsAt H p rs) : ∃ xs, H p = some (.lst xs) ∧ xs.length = rs.length := by
  obtain ⟨as, h1, h2, _⟩ := h
  exact ⟨_, h1, by rw [List.length_map, h2]⟩
/-- [[..] for j in range(n)] of drawn lists -/
theorem lc_rowsP {p q : Addr} {R : List Int → Prop} {lo : Int} {n j : Nat} {te : TE} {vs : List Nat} {σ : L2.St} {H1 : Hp} {D : Addr} {Qd : Hp → Prop} (hn : n ≤ 16777215) (hP : Pool H1 p q) (hD : H1 D = none) (hw : ∀ v, wipe ((wipe σ vs).set j v) vs = wipe σ vs)
    (hte : ∀ i H3 (Q' : VK), i < n → Pool H3 p q → SameB p H1 H3 → (∀ u r H4, R r → Pool H4 p q → SameB p H3 H4 → H3 u = none → H4 u = some (IL r) → Q' (.ref u) H4) → te ((wipe σ vs).set j (some (.int (lo + (i : Nat))))) H3 Q')
    (hd : ∀ rs H', rs.length = n → (∀ r ∈ rs, R r) → Pool H' p q → SameB p H1 H' → RowsAt H' D rs → Qd H') :
    LcW (Itr lo n) (gName j) tYes te vs σ H1 D Qd := by
  have hDp : p ≠ D := hP.ne hD
  have hDq : q ≠ D := hP.ne2 hD
  refine lc_range (lo := lo) (n := n) (fun i H' => Pool H' p q ∧ SameB p H1 H' ∧ ∃ rs : List (List Int), RowsAt H' D rs ∧ rs.length = i ∧ ∀ r ∈ rs, R r) ⟨hP.upd hD, Same.b (same_new hD _), [], ⟨[], upd_same, rfl, fun i a h => by simp at h⟩, rfl, fun v h => by cases h⟩ ?_ ?_
  · intro i H hi h
    obtain ⟨h1, h2, rs, h3, h4, h5⟩ := h
    refine ⟨hw _, ?_⟩
    simp only [tYes, if_true]
    refine hte i H _ hi h1 h2 fun u r H4 hR hP4 hs hu eu => ?_
    have h6 := h3.pool h1 hs hDp.symm
    obtain ⟨as, k1, k2, k3⟩ := h6
    obtain ⟨xs, m1, _⟩ := h3.len
    have nu : u ≠ D := fun e => by subst e; rw [m1] at hu; cases hu
    refine ⟨as.map V.ref, k1, by rw [List.length_map, k2, h4]; exact line_lt (by omega), hP4.ups hDp hDq, ?_, rs ++ [r], RowsAt.push k1 k2 k3 eu nu, by rw [List.length_append, h4]; rfl, ?_⟩
    · intro b o nb hb
      rw [upd_ne (ne_of_none hb hD)]
      exact hs b o nb (h2 b o nb hb)
    · intro x hx
      rcases List.mem_append.mp hx with hx | hx
      · exact h5 x hx
      · rw [List.mem_singleton.mp hx]; exact hR
  · intro H h
    obtain ⟨h1, h2, rs, h3, h4, h5⟩ := h
    exact hd rs H h4 h5 h1 h2 h3
/-- [f(x, y) for x, y in zip(xs, ys)] -/
theorem lc_zipI {K : PySem.W.Frag} {a b : Addr} {xs ys : List Int} {f : Int → Int → Int} {i1 i2 : Nat} {te : TE} {vs : List Nat} {σ : L2.St} {H1 : Hp} {D : Addr} {Qd : Hp → Prop} (hn : xs.length ≤ 16777215) (hx : H1 a = some (IL xs)) (hy : H1 b = some (IL ys)) (hD : H1 D = none)
    (hw : ∀ v w, wipe (((wipe σ vs).set i1 v).set i2 w) vs = wipe σ vs)
    (hte : ∀ (i : Nat) x y H3 (Q' : VK), xs[i]? = some x → ys[i]? = some y → Same H1 H3 → (∀ H4, Same H3 H4 → Q' (.int (f x y)) H4) → te (((wipe σ vs).set i1 (some (.int x))).set i2 (some (.int y))) H3 Q')
    (hd : ∀ H', Same H1 H' → H' D = some (IL (List.zipWith f xs ys)) → Qd H') :
    LcW (Itz K a b) (gTup K 2 (gCons (gName i1) (gCons (gName i2) gNil))) tYes te vs σ H1 D Qd := by
  have hl : (List.zipWith f xs ys).length = min (xs.map V.int).length (ys.map V.int).length := by rw [List.length_zipWith, List.length_map, List.length_map]
  refine lc_it (walk_zip (K := K) (a := a) (b := b) (xs := xs.map V.int) (ys := ys.map V.int) hl) (fun i H' => Same H1 H' ∧ H' D = some (IL ((List.zipWith f xs ys).take i))) ⟨same_new hD _, upd_same⟩ (fun i H _ h => ⟨.of (h.1 _ _ hx), .of (h.1 _ _ hy)⟩) ?_ ?_
  · intro i x H H' hi h hy'
    obtain ⟨h1, h2⟩ := h
    obtain ⟨t, x, y, rfl, nt, rfl, ex, ey⟩ := hy'
    obtain ⟨x, rfl, fx⟩ := ints_at ex
    obtain ⟨y, rfl, fy⟩ := ints_at ey
    refine ⟨t, _, rfl, .of upd_same, rfl, V.int x, [V.int y], rfl, V.int y, [], rfl, rfl, hw _ _, ?_⟩
    simp only [tYes, if_true]
    refine hte i x y _ _ fx fy (h1.trans (same_new nt _)) fun H4 hs => ?_
    have e4 : H4 D = some (IL ((List.zipWith f xs ys).take i)) := hs _ _ (same_new nt _ _ _ h2)
    have em : (List.zipWith f xs ys)[i]? = some (f x y) := by rw [List.getElem?_zipWith, fx, fy]
    refine ⟨_, e4, ?_, fun c o hc => ?_, ?_⟩
    · rw [List.length_map]
      have := List.length_take_le i (List.zipWith f xs ys)
      have h3 : (List.zipWith f xs ys).length ≤ xs.length := by rw [List.length_zipWith]; omega
      have := List.length_take_le' i (List.zipWith f xs ys)
      exact line_lt (by omega)
    · rw [upd_ne (ne_of_none hc hD)]
      exact hs _ _ (same_new nt _ _ _ (h1 _ _ hc))
    · rw [upd_same, take_more em]
      unfold IL
      rw [List.map_append]
      rfl
  · intro H h
    rw [List.take_length] at h
    exact hd H h.1 h.2
theorem any_rng {n : Nat} {f : Nat → Bool} : (((List.range n).map f).any id = true) ↔ ∃ i, i < n ∧ f i = true := by
  rw [List.any_map, List.any_eq_true]
  constructor
  · rintro ⟨i, hi, e⟩
    exact ⟨i, List.mem_range.mp hi, e⟩
  · rintro ⟨i, hi, e⟩
    exact ⟨i, List.mem_range.mpr hi, e⟩
/-! ### data of a small depth -/
def Shal (d : PyData) (k : Nat) : Prop := PyData.canLay0 d = true ∧ d.depth ≤ k
def ShalAll (ds : List PyData) (k : Nat) : Prop := PyData.canLayAll0 ds = true ∧ PyData.depthAll ds ≤ k
theorem Shal.int {i : Int} {k : Nat} : Shal (.int i) (k + 1) := ⟨by simp only [PyData.canLay0], by simp only [PyData.depth]; omega⟩
theorem Shal.bl {i : Bool} {k : Nat} : Shal (.bool i) (k + 1) := ⟨by simp only [PyData.canLay0], by simp only [PyData.depth]; omega⟩
theorem Shal.non {k : Nat} : Shal .none (k + 1) := ⟨by simp only [PyData.canLay0], by simp only [PyData.depth]; omega⟩
theorem ShalAll.ints {ns : List Int} {k : Nat} : ShalAll (ns.map PyData.int) (k + 1) := ⟨canLay_ints ns, by have := Dw.depthAll_ints ns; omega⟩
theorem ShalAll.nil {k : Nat} : ShalAll [] (k + 1) := ⟨by simp only [PyData.canLayAll0], by simp only [PyData.depthAll]; omega⟩
theorem ShalAll.cons {d : PyData} {ds : List PyData} {k : Nat} (a : Shal d k) (b : ShalAll ds k) : ShalAll (d :: ds) k := ⟨by rw [PyData.canLayAll0, a.1, b.1]; rfl, by
  have h1 := a.2
  have h2 := b.2
  simp only [PyData.depthAll]
  omega⟩
theorem Shal.list {ds : List PyData} {k : Nat} (a : ShalAll ds k) : Shal (.list ds) (k + 1) := ⟨by rw [PyData.canLay0]; exact a.1, by have := a.2; simp only [PyData.depth]; omega⟩
theorem Shal.tup {ds : List PyData} {k : Nat} (a : ShalAll ds k) : Shal (.tuple ds) (k + 1) := ⟨by rw [PyData.canLay0]; exact a.1, by have := a.2; simp only [PyData.depth]; omega⟩
theorem same_of {d : PyData} {x y : V} {H : Hp} {Q : VK} {E : XK} (hs : Shal d 7) (hx : Dt H x d) (hy : Dt H y d) (q : Q (.bl true) H) : spSame 8 [x, y] H Q E :=
  ⟨x, y, d, rfl, hx, hy, by have := hs.2; omega, by
    unfold SeqAt.shaped
    rw [Bool.and_eq_true]
    exact ⟨hs.1, decide_eq_true (by have := hs.2; omega)⟩, q⟩
theorem nat_of {z : Int} (h : 0 ≤ z) : ∃ n : Nat, z = (n : Int) := ⟨z.toNat, by omega⟩
theorem ins_at {α : Type} {l : List α} {i j : Nat} {x : α} (hi : i ≤ l.length) : (l.take i ++ [x] ++ l.drop i)[j]? = if j < i then l[j]? else if j = i then some x else l[j - 1]? := by
  have e1 : (l.take i).length = i := by rw [List.length_take]; omega
  by_cases h : j < i
  · rw [if_pos h, List.append_assoc, List.getElem?_append_left (by omega), List.getElem?_take_of_lt h]
  · rw [if_neg h]
    by_cases h2 : j = i
    · rw [if_pos h2, List.append_assoc, List.getElem?_append_right (by omega), e1, h2, Nat.sub_self]
      rfl
    · rw [if_neg h2, List.getElem?_append_right (by rw [List.length_append, e1]; simp; omega), List.length_append, e1, List.getElem?_drop]
      simp only [List.length_cons, List.length_nil]
      congr 1
      omega
theorem RowsAt.ins {H : Hp} {p u : Addr} {as : List Addr} {rs : List (List Int)} {r : List Int} {i : Nat} (hi : i ≤ as.length) (h1 : H p = some (.lst (as.map V.ref))) (h2 : as.length = rs.length) (h3 : ∀ i a, as[i]? = some a → H a = some (IL (rs.getD i []))) (hu : H u = some (IL r)) (n : u ≠ p) :
    RowsAt (upd H p (.lst ((as.map V.ref).take i ++ [.ref u] ++ (as.map V.ref).drop i))) p (rs.take i ++ [r] ++ rs.drop i) := by
  have nas : ∀ i a, as[i]? = some a → a ≠ p := fun i a e q => by
    subst q
    have e3 := h3 i _ e
    rw [h1] at e3
    unfold IL at e3
    injection e3 with e3
    injection e3 with e3
    cases as with
    | nil => simp at e
    | cons b bs =>
      cases hr : rs.getD i [] with
      | nil => rw [hr] at e3; cases e3
      | cons c cs => rw [hr] at e3; cases e3
  refine ⟨as.take i ++ [u] ++ as.drop i, by rw [upd_same, List.map_append, List.map_append, List.map_take, List.map_drop]; rfl, by simp only [List.length_append, List.length_take, List.length_drop, List.length_cons, List.length_nil, h2], fun j a e => ?_⟩
  rw [ins_at hi] at e
  rw [List.getD_eq_getElem?_getD, ins_at (by omega)]
  by_cases c : j < i
  · rw [if_pos c] at e ⊢
    rw [upd_ne (nas _ _ e), h3 _ _ e, List.getD_eq_getElem?_getD]
  · rw [if_neg c] at e ⊢
    by_cases c2 : j = i
    · rw [if_pos c2] at e ⊢
      cases e
      rw [upd_ne n, hu]
      rfl
    · rw [if_neg c2] at e ⊢
      rw [upd_ne (nas _ _ e), h3 _ _ e, List.getD_eq_getElem?_getD]
/-- [list(row) for row in rows] -/
theorem lc_copyRows {K : PySem.W.Frag} {p : Addr} {rs : List (List Int)} {j : Nat} {te : TE} {vs : List Nat} {σ : L2.St} {H1 : Hp} {D : Addr} {Qd : Hp → Prop} (hn : rs.length ≤ 16777215) (hR : RowsAt H1 p rs) (hD : H1 D = none) (hw : ∀ v, wipe ((wipe σ vs).set j v) vs = wipe σ vs)
    (hte : ∀ i a H3 (Q' : VK), i < rs.length → Same H1 H3 → H3 a = some (IL (rs.getD i [])) → (∀ u, H3 u = none → Q' (.ref u) (L2.upd H3 u (IL (rs.getD i [])))) → te ((wipe σ vs).set j (some (.ref a))) H3 Q')
    (hd : ∀ H', Same H1 H' → RowsAt H' D rs → Qd H') :
    LcW (Itl K p) (gName j) tYes te vs σ H1 D Qd := by
  obtain ⟨as, hp, hl, ha⟩ := hR
  refine lc_list (K := K) (a := p) (xs := as.map V.ref) (fun i H' => Same H1 H' ∧ RowsAt H' D (rs.take i)) ⟨same_new hD _, [], upd_same, by simp, fun j b h => by simp at h⟩ (fun i H' _ h => Same.seq h.1 (.of hp)) ?_ ?_
  · intro i x H' hx h
    obtain ⟨s7, cs, e7, hl7, hcs⟩ := h
    refine ⟨hw _, ?_⟩
    simp only [tYes, if_true]
    obtain ⟨a, hai, rfl⟩ := refs_at hx
    have hlt : i < as.length := (List.getElem?_eq_some_iff.mp hai).1
    have e8 := s7 _ _ (ha i a hai)
    refine hte i a H' _ (by omega) s7 e8 fun u hu => ?_
    have nu : D ≠ u := ne_of_none e7 hu
    have hP := RowsAt.push (H := L2.upd H' u (IL (rs.getD i []))) (p := D) (u := u) (as := cs) (rs := rs.take i) (r := rs.getD i []) (by rw [upd_ne nu]; exact e7) hl7 (fun j b e => same_new hu _ _ _ (hcs j b e)) upd_same nu.symm
    have et : rs.take (i + 1) = rs.take i ++ [rs.getD i []] := by
      rw [List.take_succ, List.getD_eq_getElem?_getD, List.getElem?_eq_getElem (by omega)]
      rfl
    have hcl : cs.length ≤ rs.length := by
      rw [hl7, List.length_take]
      omega
    refine ⟨_, by rw [upd_ne nu]; exact e7, by rw [List.length_map]; exact line_lt (by omega), fun b o hb' => ?_, ?_⟩
    · rw [upd_ne (ne_of_none hb' hD)]
      exact same_new hu _ _ _ (s7 _ _ hb')
    · rw [et]
      exact hP
  · intro H6 h
    obtain ⟨s7, hR6⟩ := h
    rw [List.length_map, hl, List.take_length] at hR6
    exact hd H6 s7 hR6
end Dw

namespace Dw
open PySem PySem.Spec PyProof.Rows L2
/-! ### numbers as digits of the base 128 -/
def digs (n : Nat) : List Int := if h : n > 127 then (128 + ((n % 128 : Nat) : Int)) :: digs (n / 128) else [(n : Int)]
termination_by n
decreasing_by omega
theorem digs_big {n : Nat} (h : n > 127) : digs n = (128 + ((n % 128 : Nat) : Int)) :: digs (n / 128) := by
  rw [digs, dif_pos h]
theorem digs_small {n : Nat} (h : ¬ n > 127) : digs n = [(n : Int)] := by
  rw [digs, dif_neg h]
theorem digs_len : ∀ (k n : Nat), n < 128 ^ (k + 1) → (digs n).length ≤ k + 1
  | 0, n, h => by
    rw [digs_small (by omega)]
    exact Nat.le_refl _
  | k + 1, n, h => by
    by_cases c : n > 127
    · rw [digs_big c, List.length_cons]
      have := digs_len k (n / 128) (by
        rw [Nat.div_lt_iff_lt_mul (by decide)]
        rw [Nat.pow_succ] at h
        exact h)
      omega
    · rw [digs_small c]
      exact Nat.le_add_left _ _
/-- how many digits there are in front of the last one -/
def lead : List Int → Nat
  | [] => 0
  | x :: r => if x > 127 then lead r + 1 else 0
def valD (ds : List Int) : Int := ds.foldr (fun d acc => acc * 128 + d % 128) 0
theorem valD_snoc : ∀ (ds : List Int) (x : Int), valD (ds ++ [x]) = valD ds + 128 ^ ds.length * (x % 128)
  | [], x => by
    show 0 * 128 + x % 128 = 0 + 128 ^ 0 * (x % 128)
    simp
  | d :: r, x => by
    have ih := valD_snoc r x
    show valD (r ++ [x]) * 128 + d % 128 = valD r * 128 + d % 128 + 128 ^ (r.length + 1) * (x % 128)
    rw [ih, Int.add_mul, Int.pow_succ, Int.mul_right_comm]
    omega
theorem lead_le : ∀ ns : List Int, lead ns ≤ ns.length
  | [] => Nat.le_refl _
  | x :: r => by
    have := lead_le r
    show (if x > 127 then lead r + 1 else 0) ≤ r.length + 1
    split <;> omega
theorem lead_at : ∀ {ns : List Int} {i : Nat}, i < lead ns → ∃ x, ns[i]? = some x ∧ x > 127
  | [], _, h => absurd h (Nat.not_lt_zero _)
  | x :: r, i, h => by
    unfold lead at h
    by_cases c : x > 127
    · rw [if_pos c] at h
      cases i with
      | zero => exact ⟨x, rfl, c⟩
      | succ i => exact lead_at (ns := r) (i := i) (by omega)
    · rw [if_neg c] at h
      exact absurd h (Nat.not_lt_zero _)
theorem lead_stop : ∀ {ns : List Int} {x : Int}, ns[lead ns]? = some x → ¬ x > 127
  | [], _, h => by cases h
  | y :: r, x, h => by
    unfold lead at h
    by_cases c : y > 127
    · rw [if_pos c, List.getElem?_cons_succ] at h
      exact lead_stop h
    · rw [if_neg c] at h
      cases h
      exact c
theorem lead_eq {ns : List Int} {i : Nat} {x : Int} (h1 : i ≤ lead ns) (h2 : ns[i]? = some x) (h3 : ¬ x > 127) : lead ns = i := by
  apply Classical.byContradiction
  intro c
  obtain ⟨y, e, hy⟩ := lead_at (ns := ns) (i := i) (by omega)
  rw [h2] at e
  cases e
  exact h3 hy
theorem lead_digs : ∀ (n : Nat) (r : List Int), lead (digs n ++ r) + 1 = (digs n).length := by
  intro n
  induction n using Nat.strongRecOn with
  | ind n ih =>
    intro r
    by_cases c : n > 127
    · rw [digs_big c, List.cons_append, List.length_cons]
      unfold lead
      rw [if_pos (by omega), ih (n / 128) (by omega) r]
    · rw [digs_small c]
      show lead ((n : Int) :: r) + 1 = 1
      unfold lead
      rw [if_neg (by omega)]
theorem val_digs : ∀ n : Nat, valD (digs n) = (n : Int) := by
  intro n
  induction n using Nat.strongRecOn with
  | ind n ih =>
    by_cases c : n > 127
    · rw [digs_big c]
      show valD (digs (n / 128)) * 128 + (128 + ((n % 128 : Nat) : Int)) % 128 = _
      rw [ih (n / 128) (by omega)]
      omega
    · rw [digs_small c]
      show 0 * 128 + (n : Int) % 128 = _
      omega
theorem last_digs : ∀ n : Nat, 1 < (digs n).length → (digs n).getD ((digs n).length - 1) 0 ≠ 0 := by
  intro n
  induction n using Nat.strongRecOn with
  | ind n ih =>
    intro h
    by_cases c : n > 127
    · have hl : 0 < (digs (n / 128)).length := by
        have := lead_digs (n / 128) []
        omega
      rw [digs_big c, List.length_cons]
      have e : (digs (n / 128)).length + 1 - 1 = ((digs (n / 128)).length - 1) + 1 := by omega
      rw [e, List.getD_cons_succ]
      by_cases h2 : 1 < (digs (n / 128)).length
      · exact ih (n / 128) (by omega) h2
      · have c2 : ¬ n / 128 > 127 := fun c2 => by
          rw [digs_big c2, List.length_cons] at h2
          have := lead_digs (n / 128 / 128) []
          omega
        rw [digs_small c2]
        show ((n / 128 : Nat) : Int) ≠ 0
        omega
    · rw [digs_small c] at h
      exact absurd h (Nat.lt_irrefl _)
/-- the number that begins at a place, and the place behind it -/
def rdZ (ns : List Int) (i : Nat) : Option (Int × Nat) :=
  let m := lead (ns.drop i)
  if i + m < ns.length ∧ ¬ (0 < m ∧ ns.getD (i + m) 0 = 0) then some (valD ((ns.drop i).take (m + 1)), i + m + 1) else none
theorem rd_digs (pre : List Int) (n : Nat) (r : List Int) : rdZ (pre ++ digs n ++ r) pre.length = some ((n : Int), pre.length + (digs n).length) := by
  have hd : (pre ++ digs n ++ r).drop pre.length = digs n ++ r := by
    rw [List.append_assoc, List.drop_left]
  have hl := lead_digs n r
  have hg : ∀ i, (pre ++ digs n ++ r).getD (pre.length + i) 0 = (digs n ++ r).getD i 0 := fun i => by
    rw [List.append_assoc, List.getD_eq_getElem?_getD, List.getElem?_append_right (by omega), List.getD_eq_getElem?_getD]
    congr 2
    omega
  unfold rdZ
  simp only [hd, hg]
  rw [if_pos]
  · have e : lead (digs n ++ r) + 1 = (digs n).length := hl
    rw [e, List.take_left, val_digs, ← e]
    rfl
  · refine ⟨by rw [List.length_append, List.length_append]; omega, fun ⟨h1, h2⟩ => ?_⟩
    have e : lead (digs n ++ r) = (digs n).length - 1 := by omega
    rw [e, List.getD_eq_getElem?_getD, List.getElem?_append_left (by omega), ← List.getD_eq_getElem?_getD] at h2
    exact last_digs n (by omega) h2
theorem cdivW_r {i j : Int} (h1 : 0 < j) (h2 : j < 18446744073709551616) : CDivW i j = True := eq_true ⟨h1, by
  have h3 : j.natAbs < 2 ^ 64 := by omega
  have h4 : j.natAbs ≠ 0 := by omega
  have := (Nat.log2_lt h4).mpr h3
  omega⟩
def spDrawW : Sp := fun vs H Q _ => ∃ (p q : Addr) (m : Int), vs = [.ref p, .int m] ∧ Pool H p q ∧ 0 < m ∧ m < 18446744073709551616 ∧ ∀ r H', 0 ≤ r → r < m → Pool H' p q → SameB p H H' → Q (.int r) H'
theorem drawW {vs : List V} {H : Hp} {Q : VK} {E : XK} (h : spDraw vs H Q E) : spDrawW vs H Q E := by
  obtain ⟨p, q, m, e, h1, h2, h3, k⟩ := h
  exact ⟨p, q, m, e, h1, h2, by omega, k⟩
def spWriteNumber : Sp := fun vs H Q _ => ∃ n : Nat, vs = [.int n] ∧ n < 128 ^ 100 ∧ ∀ D H', Same H H' → H D = none → H' D = some (IL (digs n)) → Q (.ref D) H'
def spReadNumber (CE : Addr) : Sp := fun vs H Q E => ∃ (a : Addr) (ns : List Int) (i : Nat), vs = [.ref a, .int i] ∧ H a = some (IL ns) ∧ ns.length ≤ 1000000 ∧
  (∀ v k, rdZ ns i = some (v, k) → ∀ t H', Same H H' → H t = none → H' t = some (.tup [.int v, .int (k : Int)]) → Q (.ref t) H') ∧ (rdZ ns i = none → ∀ H', Same H H' → E (.ref CE) none H')
theorem cutI_nat {ns : List Int} {i j : Nat} (h : i ≤ j) (h2 : j ≤ ns.length) : cutI ns (some (i : Int)) (some (j : Int)) = (ns.drop i).take (j - i) := by
  unfold cutI
  rw [HT.sIx_nat, HT.sIx_nat, Nat.min_eq_left h2, Nat.min_eq_left (Nat.le_trans h h2)]
theorem valD_drop {ds : List Int} {t : Nat} {x : Int} (h : t < ds.length) (hx : ds[ds.length - 1 - t]? = some x) : valD (ds.drop (ds.length - (t + 1))) = valD (ds.drop (ds.length - t)) * 128 + x % 128 := by
  have h1 : ds.length - (t + 1) < ds.length := by omega
  have e : ds.length - (t + 1) + 1 = ds.length - t := by omega
  have e2 : ds.length - 1 - t = ds.length - (t + 1) := by omega
  rw [e2, List.getElem?_eq_getElem h1] at hx
  rw [List.drop_eq_getElem_cons h1, e, Option.some.inj hx]
  rfl
end Dw

namespace Dw
open PySem PySem.Spec PyProof.Rows L2
/-! ### xs[lo:hi:c] of a list, c written and positive -/
def picks {α : Type} (xs : List α) (lo hi : Option Int) (c : Int) : List α :=
  (sliceRange (sliceBounds lo hi (some c) xs.length).1 (sliceBounds lo hi (some c) xs.length).2.1 (sliceBounds lo hi (some c) xs.length).2.2).filterMap (xs[·]?)
theorem vals_pick {xs : List V} {us : List Value} (r : Vals xs us) : ∀ is : List Nat, Vals (is.filterMap (xs[·]?)) (is.filterMap (us[·]?))
  | [] => .nil
  | i :: is => by
    have ih := vals_pick r is
    rw [List.filterMap_cons, List.filterMap_cons]
    cases e : xs[i]? with
    | none =>
      rw [Vals.none_of r e]
      exact ih
    | some x =>
      obtain ⟨u, eu, ru⟩ := Vals.get r e
      rw [eu]
      exact .cons ru ih
theorem picks_map {α β : Type} (f : α → β) (xs : List α) (lo hi : Option Int) (c : Int) : picks (xs.map f) lo hi c = (picks xs lo hi c).map f := by
  unfold picks
  rw [List.length_map, List.map_filterMap]
  congr 1
  funext i
  rw [List.getElem?_map]
/-- what is asked, by values: any reading that gives this -/
def SlcOk (K : PySem.W.Frag) (c : Int) (rd : V → Option Int → Option Int → Hp → VK → Prop) : Prop := ∀ x l u H Q, rd x l u H Q → ∃ a xs, x = .ref a ∧ SqL K H a xs ∧ ∀ p, H p = none → Q (.ref p) (upd H p (.lst (picks xs l u c)))
def rSlCI (c : Int) : V → Option Int → Option Int → Hp → VK → Prop := fun x l u H Q => ∃ a ns, x = .ref a ∧ H a = some (IL ns) ∧ ∀ p, H p = none → Q (.ref p) (upd H p (IL (picks ns l u c)))
theorem slcI {K : PySem.W.Frag} {c : Int} : SlcOk K c (rSlCI c) := fun x l u H Q h => by
  obtain ⟨a, ns, e, h1, q⟩ := h
  refine ⟨a, _, e, .of h1, fun p hp => ?_⟩
  rw [picks_map]
  exact q p hp
section
variable {X : Cx}
theorem pe_sliceC {e : Expr} {lo hi : Option Expr} {te : TE} {tl th : TO} {rd : V → Option Int → Option Int → Hp → VK → Prop} {c : Int} {k : Nat} {p1 p3 pos : Pos} (ok : SlcOk X.K c rd) (hc : (some c : Option Int) ≠ some 0) (he : PE X e te) (hl : PO X lo tl) (hu : PO X hi th) :
    PE X (.Subscript e (.Slice lo hi (some (.Constant (.int c) k p1)) p3) pos) (tSl rd te tl th) := by
  refine ⟨fun pins s σ H Q I h => ?_⟩
  refine Subscript_ (thn (he.run pins s σ H _ I h) fun v s1 ⟨x, H1, I1, r1, q1⟩ => ?_)
  have hst : PO X (some (.Constant (.int c) k p1)) (tPart (tC (.int c))) := po_some pe_int
  refine wpAny_Slice (thn (hl.run pins s1 σ H1 _ I1 q1) fun vl s2 ⟨l, H2, I2, pl, q2⟩ => ?_)
  refine thn (hu.run pins s2 σ H2 _ I2 q2) fun vu s3 ⟨u, H3, I3, pu, q3⟩ => ?_
  obtain ⟨a, xs, ex, hx, q⟩ := ok _ _ _ _ _ q3
  subst ex
  cases r1
  refine thn (hst.run pins s3 σ H3 (fun o H4 => o = some c ∧ H4 = H3) I3 ⟨c, rfl, rfl, rfl⟩) fun vs s4 ⟨o, H4, I4, ps, eo, e4⟩ => ?_
  subst eo e4
  have I5 : Inv X pins σ H4 { s4 with heap := s4.heap.push { cls := .type "slice", data := .fields #[vl, vu, vs] } } := I4.kept (t' := s4.toks) fun b ob q => Heap.get?_push_of_some _ q
  obtain ⟨its, r, ht, hz⟩ := I5.list hx
  have hlen := r.length
  show wpAny (model X.prog X.w) X.A (subscriptTail e (.Slice lo hi (some (.Constant (.int c) k p1)) p3) (.ref a) (.ref s4.heap.objs.size)) (EP X pins σ Q) X.xe { s4 with heap := s4.heap.push { cls := .type "slice", data := .fields #[vl, vu, vs] } }
  refine tail_any (ops := [.ref a, .ref s4.heap.objs.size]) ht.isList.typeIs (PySem.slot_list_getitem.lookup) ?_ (by with_unfolding_all rfl)
  refine wpAny_getItem_list_slice ht.isList (Heap.IsSliceOf.new _ vl vu vs) pl pu ps hc ?_ (by rw [List.size_toArray]; omega)
  have ep : slicePick its.toArray l u (some c) = (picks its l u c).toArray := by
    unfold slicePick picks
    rw [List.size_toArray]
    congr 2
    funext i
    exact List.getElem?_toArray ..
  rw [ep]
  have hle := slicePick_size_le its.toArray l u (some c)
  rw [ep, List.size_toArray, List.size_toArray] at hle
  have hv : Vals (picks xs l u c) (picks its l u c) := by
    unfold picks
    rw [hlen]
    exact vals_pick r _
  refine ⟨.ref _, _, I5.laid (t' := s4.toks) (o := .lst (picks xs l u c)) (fun b ob q => Heap.get?_push_of_some _ q) (Nat.le_refl _) ?_, rfl, q _ (I5.hok.fresh (Nat.le_refl _))⟩
  exact ⟨by rw [hv.length]; omega, _, 0, hv, Heap.get?_push_size _ rfl⟩
end
/-! every c-th one -/
theorem filterMap_some {α β : Type} {g : α → Option β} {h : α → β} : ∀ {l : List α}, (∀ i ∈ l, g i = some (h i)) → l.filterMap g = l.map h
  | [], _ => rfl
  | x :: r, q => by
    rw [List.filterMap_cons, q x List.mem_cons_self, List.map_cons, filterMap_some fun i hi => q i (List.mem_cons_of_mem _ hi)]
theorem range_pick {ns : List Int} {a c n : Nat} (hc : 0 < c) (ha : a ≤ n) (hn : n ≤ ns.length) :
    (sliceRange (a : Int) (n : Int) (c : Int)).filterMap (ns[·]?) = (List.range ((n - a + c - 1) / c)).map fun i => ns.getD (a + c * i) 0 := by
  have hcount : (if (c : Int) > 0 then (if (a : Int) < (n : Int) then ((n : Int) - (a : Int) + (c : Int) - 1) / (c : Int) else 0) else (if (a : Int) > (n : Int) then ((a : Int) - (n : Int) - (c : Int) - 1) / (-(c : Int)) else 0)).toNat = (n - a + c - 1) / c := by
    rw [if_pos (by omega)]
    by_cases h : a < n
    · rw [if_pos (by omega)]
      have e : (n : Int) - (a : Int) + (c : Int) - 1 = ((n - a + c - 1 : Nat) : Int) := by omega
      rw [e, ← Int.natCast_ediv, Int.toNat_natCast]
    · rw [if_neg (by omega)]
      have e : n - a + c - 1 = c - 1 := by omega
      rw [e, Nat.div_eq_of_lt (by omega)]
      rfl
  unfold sliceRange
  simp only
  rw [hcount, List.filterMap_map]
  refine filterMap_some fun i hi => ?_
  rw [List.mem_range] at hi
  have h1 : c * ((n - a + c - 1) / c) ≤ n - a + c - 1 := Nat.mul_div_le _ _
  have h2 : c * (i + 1) ≤ c * ((n - a + c - 1) / c) := Nat.mul_le_mul_left c hi
  rw [Nat.mul_add, Nat.mul_one] at h2
  have h3 : a + c * i < ns.length := by omega
  have e : ((a : Int) + (c : Int) * (i : Int)).toNat = a + c * i := by
    have : (c : Int) * (i : Int) = ((c * i : Nat) : Int) := by rw [Int.natCast_mul]
    omega
  simp only [Function.comp]
  rw [e, List.getElem?_eq_getElem h3, List.getD_eq_getElem?_getD, List.getElem?_eq_getElem h3]
  rfl
theorem range_none {ns : List Int} {a b c : Int} (hc : 0 < c) (h : b ≤ a) : (sliceRange a b c).filterMap (ns[·]?) = [] := by
  unfold sliceRange
  simp only
  rw [if_pos hc, if_neg (by omega)]
  rfl
theorem picks_to {ns : List Int} {a c n : Nat} (hc : 0 < c) (hn : n ≤ ns.length) :
    picks ns (some (a : Int)) (some (n : Int)) (c : Int) = (List.range ((n - a + c - 1) / c)).map fun i => ns.getD (a + c * i) 0 := by
  have hb : sliceBounds (some (a : Int)) (some (n : Int)) (some (c : Int)) ns.length = (((min a ns.length : Nat) : Int), (n : Int), (c : Int)) := by
    have h1 : (c : Int) > 0 := by omega
    have h2 : ¬ (a : Int) < 0 := by omega
    have h3 : ¬ (n : Int) < 0 := by omega
    simp only [sliceBounds, Option.getD_some, h1, h2, h3, if_true, if_false]
    congr 1
    · omega
    · congr 1
      omega
  unfold picks
  rw [hb]
  by_cases ha : a ≤ n
  · have e : min a ns.length = a := by omega
    rw [e]
    exact range_pick hc ha hn
  · simp only
    rw [range_none (by omega) (by omega)]
    have e : n - a + c - 1 = c - 1 := by omega
    rw [e, Nat.div_eq_of_lt (by omega)]
    rfl
theorem picks_from {ns : List Int} {a c : Nat} (hc : 0 < c) :
    picks ns (some (a : Int)) none (c : Int) = (List.range ((ns.length - a + c - 1) / c)).map fun i => ns.getD (a + c * i) 0 := by
  have hb : sliceBounds (some (a : Int)) none (some (c : Int)) ns.length = (((min a ns.length : Nat) : Int), (ns.length : Int), (c : Int)) := by
    have h1 : (c : Int) > 0 := by omega
    have h2 : ¬ (a : Int) < 0 := by omega
    simp only [sliceBounds, Option.getD_some, h1, h2, if_true, if_false]
    congr 1
    omega
  unfold picks
  rw [hb]
  by_cases ha : a ≤ ns.length
  · have e : min a ns.length = a := by omega
    rw [e]
    exact range_pick hc ha (Nat.le_refl _)
  · simp only
    rw [range_none (by omega) (by omega)]
    have e : ns.length - a + c - 1 = c - 1 := by omega
    rw [e, Nat.div_eq_of_lt (by omega)]
    rfl
/-! ### reading cells -/
def evens (cs : List Int) (n : Nat) : List Int := (List.range n).map fun i => cs.getD (2 * i) 0
def odds (cs : List Int) (n : Nat) : List Int := (List.range n).map fun i => cs.getD (2 * i + 1) 0
theorem evens_len (cs : List Int) (n : Nat) : (evens cs n).length = n := by unfold evens; rw [List.length_map, List.length_range]
theorem odds_len (cs : List Int) (n : Nat) : (odds cs n).length = n := by unfold odds; rw [List.length_map, List.length_range]
theorem evens_get {cs : List Int} {n i : Nat} (h : i < n) : (evens cs n).getD i 0 = cs.getD (2 * i) 0 := by
  unfold evens
  rw [List.getD_eq_getElem?_getD, List.getElem?_map, List.getElem?_range h]
  rfl
theorem odds_get {cs : List Int} {n i : Nat} (h : i < n) : (odds cs n).getD i 0 = cs.getD (2 * i + 1) 0 := by
  unfold odds
  rw [List.getD_eq_getElem?_getD, List.getElem?_map, List.getElem?_range h]
  rfl
theorem getD_take {cs : List Int} {n i : Nat} (h : i < n) : (cs.take n).getD i 0 = cs.getD i 0 := by
  rw [List.getD_eq_getElem?_getD, List.getD_eq_getElem?_getD, List.getElem?_take_of_lt h]
theorem whole_even {cs : List Int} {n : Nat} (h : 2 * n ≤ cs.length) : picks (cs.take (2 * n)) (some 0) none 2 = evens cs n := by
  have e := picks_from (ns := cs.take (2 * n)) (a := 0) (c := 2) (by decide)
  have hl : (cs.take (2 * n)).length = 2 * n := by rw [List.length_take]; omega
  rw [hl] at e
  have e2 : (2 * n - 0 + 2 - 1) / 2 = n := by omega
  rw [e2] at e
  refine e.trans ?_
  unfold evens
  refine List.map_congr_left fun i hi => ?_
  rw [List.mem_range] at hi
  rw [Nat.zero_add, getD_take (by omega)]
theorem whole_odd {cs : List Int} {n : Nat} (h : 2 * n ≤ cs.length) : picks (cs.take (2 * n)) (some 1) none 2 = odds cs n := by
  have e := picks_from (ns := cs.take (2 * n)) (a := 1) (c := 2) (by decide)
  have hl : (cs.take (2 * n)).length = 2 * n := by rw [List.length_take]; omega
  rw [hl] at e
  have e2 : (2 * n - 1 + 2 - 1) / 2 = n := by omega
  rw [e2] at e
  refine e.trans ?_
  unfold odds
  refine List.map_congr_left fun i hi => ?_
  rw [List.mem_range] at hi
  rw [getD_take (by omega), Nat.add_comm]
theorem part_even {cs : List Int} {n : Nat} (h : 2 * n ≤ cs.length) : picks cs (some 0) (some ((2 * n : Nat) : Int)) 2 = evens cs n := by
  have e := picks_to (ns := cs) (a := 0) (c := 2) (n := 2 * n) (by decide) h
  have e2 : (2 * n - 0 + 2 - 1) / 2 = n := by omega
  rw [e2] at e
  refine e.trans ?_
  unfold evens
  refine List.map_congr_left fun i hi => ?_
  rw [Nat.zero_add]
theorem part_odd {cs : List Int} {n : Nat} (h : 2 * n ≤ cs.length) : picks cs (some 1) (some ((2 * n : Nat) : Int)) 2 = odds cs n := by
  have e := picks_to (ns := cs) (a := 1) (c := 2) (n := 2 * n) (by decide) h
  have e2 : (2 * n - 1 + 2 - 1) / 2 = n := by omega
  rw [e2] at e
  refine e.trans ?_
  unfold odds
  refine List.map_congr_left fun i hi => ?_
  rw [Nat.add_comm]
def byteZ (ns : List Int) : Int := ns.foldl (fun v b => 2 * v + b) 0
theorem byteZ_more {ns : List Int} {i : Nat} {b : Int} (h : ns[i]? = some b) : byteZ (ns.take (i + 1)) = 2 * byteZ (ns.take i) + b := by
  unfold byteZ
  rw [List.take_succ, h, List.foldl_append]
  rfl
theorem byteZ_bits8 {v : Nat} (hv : v < 256) : byteZ (bits8 v) = (v : Int) := by
  unfold byteZ bits8
  simp only [List.foldl_cons, List.foldl_nil]
  omega
/-- bytes of eight bits each -/
def bytesZ (ns : List Int) : List Int := (List.range (ns.length / 8)).map fun k => byteZ ((ns.drop (8 * k)).take 8)
def fmF (cl : List Int) : List Int := ((List.range cl.length).filter fun i => !decide (cl.getD i 0 = 1)).map fun i : Nat => (i : Int)
def lastB (before : Int) (bs : List Int) (i : Nat) : Int := if i = 0 then before else bs.getD (i - 1) 0
def mfmT (before : Int) (cl bs : List Int) (i : Nat) : Bool := !decide (cl.getD i 0 = clk (lastB before bs i) (bs.getD i 0))
def mfmFa (before : Int) (cl bs : List Int) : List Int := ((List.range cl.length).filter (mfmT before cl bs)).map fun i : Nat => (i : Int)
def spReadFm : Sp := fun vs H Q _ => ∃ (a : Addr) (cs : List Int), vs = [.ref a] ∧ H a = some (IL cs) ∧ cs.length ≤ 1000000 ∧
  ∀ t b f H', Same H H' → H t = none → H' t = some (.tup [.ref b, .ref f]) → H' b = some (IL (bytesZ (odds cs (8 * (cs.length / 16))))) → H' f = some (IL (fmF (evens cs (8 * (cs.length / 16))))) → Q (.ref t) H'
def spReadMfm : Sp := fun vs H Q _ => ∃ (a : Addr) (cs : List Int) (before : Int), vs = [.ref a, .int before] ∧ H a = some (IL cs) ∧ cs.length ≤ 1000000 ∧
  ∀ t b f H', Same H H' → H t = none → H' t = some (.tup [.ref b, .ref f]) → H' b = some (IL (bytesZ (odds cs (8 * (cs.length / 16))))) → H' f = some (IL (mfmFa before (evens cs (8 * (cs.length / 16))) (odds cs (8 * (cs.length / 16))))) → Q (.ref t) H'
def spWhole : Sp := fun vs H Q _ => ∃ (a : Addr) (cs : List Int) (c : Nat), vs = [.ref a, .int (c : Int)] ∧ H a = some (IL cs) ∧ cs.length ≤ 1000000 ∧ 0 < c ∧ c < 1000 ∧ ∀ D H', Same H H' → H D = none → H' D = some (IL (cs.take (cs.length / c * c))) → Q (.ref D) H'
def spBytesOf : Sp := fun vs H Q _ => ∃ (a : Addr) (cs : List Int), vs = [.ref a] ∧ H a = some (IL cs) ∧ cs.length ≤ 1000000 ∧ cs.length % 8 = 0 ∧ ∀ D H', Same H H' → H D = none → H' D = some (IL (bytesZ cs)) → Q (.ref D) H'
def spBitsByte : Sp := fun vs H Q _ => ∃ (a : Addr) (ns : List Int), vs = [.ref a] ∧ H a = some (IL ns) ∧ Q (.int (byteZ ns)) H
def spMfmClock : Sp := fun vs H Q _ => ∃ (l b : Int), vs = [.int l, .int b] ∧ Q (.int (clk l b)) H
/-- [i for i, x in enumerate(xs) if ..] -/
theorem lc_enumF {K : PySem.W.Frag} {a : Addr} {xs : List Int} {kp : Nat → Bool} {i1 i2 : Nat} {tt : TT} {te : TE} {vs : List Nat} {σ : L2.St} {H1 : Hp} {D : Addr} {Qd : Hp → Prop} (hn : xs.length ≤ 16777215) (hx : H1 a = some (IL xs)) (hD : H1 D = none)
    (hw : ∀ v w, wipe (((wipe σ vs).set i1 v).set i2 w) vs = wipe σ vs)
    (htt : ∀ (i : Nat) x H3 (Q' : Bool → Hp → Prop), xs[i]? = some x → Same H1 H3 → (∀ H4, Same H3 H4 → Q' (kp i) H4) → tt (((wipe σ vs).set i1 (some (.int (i : Int)))).set i2 (some (.int x))) H3 Q')
    (hte : ∀ (i : Nat) x H3 (Q' : VK), xs[i]? = some x → Same H1 H3 → (∀ H4, Same H3 H4 → Q' (.int (i : Int)) H4) → te (((wipe σ vs).set i1 (some (.int (i : Int)))).set i2 (some (.int x))) H3 Q')
    (hd : ∀ H', Same H1 H' → H' D = some (IL (((List.range xs.length).filter kp).map fun i : Nat => (i : Int))) → Qd H') :
    LcW (Ite K a) (gTup K 2 (gCons (gName i1) (gCons (gName i2) gNil))) tt te vs σ H1 D Qd := by
  have wk := walk_enum (K := K) (a := a) (xs := xs.map V.int)
  rw [List.length_map] at wk
  refine lc_it wk (fun i H' => Same H1 H' ∧ H' D = some (IL (((List.range i).filter kp).map fun i : Nat => (i : Int)))) ⟨same_new hD _, upd_same⟩ (fun i H _ h => .of (h.1 _ _ hx)) ?_ ?_
  · intro i x H H' hi h hy
    obtain ⟨h1, h2⟩ := h
    obtain ⟨t, x, y, rfl, nt, rfl, ex, ey⟩ := hy
    cases ex
    obtain ⟨y, rfl, fy⟩ := ints_at ey
    have s1 := h1.trans (same_new nt (.tup [V.int (i : Int), V.int y]))
    refine ⟨t, _, rfl, .of upd_same, rfl, V.int (i : Int), [V.int y], rfl, V.int y, [], rfl, rfl, hw _ _, ?_⟩
    refine htt i y _ _ fy s1 fun H4 s4 => ?_
    have e4 : H4 D = some (IL (((List.range i).filter kp).map fun i : Nat => (i : Int))) := s4 _ _ (same_new nt _ _ _ h2)
    have hle := List.length_filter_le kp (List.range i)
    rw [List.length_range] at hle
    by_cases c : kp i = true
    · rw [if_pos c]
      refine hte i y _ _ fy (s1.trans s4) fun H5 s5 => ?_
      refine ⟨_, s5 _ _ e4, by rw [List.length_map, List.length_map]; exact line_lt (by omega), fun b o hb => ?_, ?_⟩
      · rw [upd_ne (ne_of_none hb hD)]
        exact s5 _ _ (s4 _ _ (s1 _ _ hb))
      · rw [upd_same, List.range_succ, List.filter_append, List.map_append]
        unfold IL
        rw [List.map_append]
        simp [c]
    · rw [if_neg c]
      refine ⟨s1.trans s4, ?_⟩
      rw [e4, List.range_succ, List.filter_append]
      simp [c]
  · intro H h
    exact hd H h.1 h.2
/-- [e for k in range(lo, hi, c)], ints by the place alone -/
theorem lc_rangeCI {lo c : Int} {n : Nat} {f : Nat → Int} {j : Nat} {te : TE} {vs : List Nat} {σ : L2.St} {H1 : Hp} {D : Addr} {Qd : Hp → Prop} (hn : n ≤ 16777215) (hD : H1 D = none) (hw : ∀ v, wipe ((wipe σ vs).set j v) vs = wipe σ vs)
    (hte : ∀ i H3 (Q' : VK), i < n → Same H1 H3 → (∀ H4, Same H3 H4 → Q' (.int (f i)) H4) → te ((wipe σ vs).set j (some (.int (lo + (i : Nat) * c)))) H3 Q')
    (hd : ∀ H', Same H1 H' → H' D = some (IL ((List.range n).map f)) → Qd H') : LcW (Itc lo c n) (gName j) tYes te vs σ H1 D Qd := by
  refine lc_it (walk_rangeC (lo := lo) (c := c) (n := n)) (fun i H' => Same H1 H' ∧ H' D = some (IL ((List.range i).map f))) ⟨same_new hD _, upd_same⟩ (fun i H _ h => trivial) ?_ ?_
  · intro i x H H' hi h hy
    obtain ⟨h1, h2⟩ := h
    obtain ⟨rfl, rfl⟩ := hy
    refine ⟨hw _, ?_⟩
    simp only [tYes, if_true]
    refine hte i _ _ hi h1 fun H4 hs => ?_
    have e := hs D _ h2
    refine ⟨_, e, by rw [List.length_map, List.length_map, List.length_range]; exact line_lt (by omega), fun b o hb => ?_, ?_⟩
    · rw [upd_ne (ne_of_none hb hD)]
      exact hs _ _ (h1 b o hb)
    · rw [upd_same, List.range_succ, List.map_append]
      unfold IL
      rw [List.map_append]
      rfl
  · intro H h
    exact hd H h.1 h.2
/-- range(0, a length, c) -/
theorem rgC_len {len c : Nat} (hc : 0 < c) (hc2 : c < 1073741824) (hl : len ≤ 16777216) : RgC 0 (len : Int) (c : Int) ((len + c - 1) / c) := by
  have e : Builtin.Range.rangeSize 0 (len : Int) (c : Int) = (((len + c - 1) / c : Nat) : Int) := by
    rw [PyProof.Rows.rangeSize_pos (by omega) (by omega), Int.natCast_ediv]
    congr 1
    omega
  have hq : (len + c - 1) / c ≤ len := by
    cases len with
    | zero => rw [Nat.div_eq_of_lt (by omega)]; exact Nat.le_refl _
    | succ n =>
      refine Nat.div_le_of_le_mul ?_
      have : c * (n + 1) = c * n + c := Nat.mul_succ c n
      have h2 : n ≤ c * n := Nat.le_mul_of_pos_left n hc
      omega
  refine ⟨by omega, by omega, ?_, e⟩
  unfold Builtin.Range.small
  rw [e]
  have h3 : (((len + c - 1) / c : Nat) : Int) * (c : Int) ≤ (len : Int) + (c : Int) - 1 := by
    have := Nat.div_mul_le_self (len + c - 1) c
    rw [← Int.natCast_mul]
    omega
  generalize (len + c - 1) / c = n at *
  simp only [Builtin.Range.rangeFitsLong, Bool.and_eq_true, Bool.or_eq_true, decide_eq_true_eq, beq_iff_eq]
  rw [if_pos (by omega), Bool.and_eq_true, decide_eq_true_eq, decide_eq_true_eq]
  exact ⟨by omega, .inr (by omega)⟩
/-! for loops, by the name ForW -/
theorem forR {lo : Int} {n : Nat} {g : TG} {tb : TS} {D : Ends} {σ : L2.St} {H : Hp} (Pv : Nat → L2.St → Hp → Prop) (h0 : Pv 0 σ H)
    (hs : ∀ i σ H, i < n → Pv i σ H → g (.int (lo + i)) σ H fun σ2 H2 => tb { D with nx := Pv (i + 1), ct := Pv (i + 1), bk := D.nx } σ2 H2) (hd : ∀ σ H, Pv n σ H → D.nx σ H) : ForW (Itr lo n) g tb D σ H := for_range Pv h0 hs hd
theorem forL {K : PySem.W.Frag} {a : Addr} {xs : List V} {g : TG} {tb : TS} {D : Ends} {σ : L2.St} {H : Hp} (Pv : Nat → L2.St → Hp → Prop) (h0 : Pv 0 σ H) (hl : ∀ i σ H, i ≤ xs.length → Pv i σ H → SqL K H a xs)
    (hs : ∀ i x σ H, xs[i]? = some x → Pv i σ H → g x σ H fun σ2 H2 => tb { D with nx := Pv (i + 1), ct := Pv (i + 1), bk := D.nx } σ2 H2) (hd : ∀ σ H, Pv xs.length σ H → D.nx σ H) : ForW (Itl K a) g tb D σ H := for_list Pv h0 hl hs hd
end Dw

/-! sums of tuples, an own __eq__ that may be False, isinstance of an own instance -/
namespace Dw
open PySem PySem.Spec PyProof.Rows L2
section
variable {prog : Program} {w : World} {A : Around} {E : Value → Shared → Prop} {s : Shared} {l : Addr} {xs : Array (Int × Tok)}
theorem sum_tupW {Q : Value → Shared → Prop} (hh : A.handled = none) (hl : s.heap.IsTuple l (intItems xs))
    (h : ∀ h' tk t', (∀ b o, s.heap.get? b = some o → h'.get? b = some o) → Q (.int (preSum (numAt xs) xs.size) t') { s with heap := h', toks := tk }) :
    wpAny (model prog w) A (call (.builtin "sum") [.ref l]) Q E s := by
  have hlt : l < s.heap.objs.size := by
    obtain ⟨_, e, _⟩ := hl
    exact Heap.lt_size e
  refine call_sum_walkG (wpAny_pyIter_tuple hl ?_)
  refine ⟨_, [s.heap.objs.size, l], [s.heap.objs.size], _, _, _, numAt xs, rfl, Walks.tuple (A := A.in1) hh _ l (Nat.ne_of_lt hlt) (intItems xs), ⟨⟨_, Heap.get?_push_size _ rfl, rfl, rfl⟩, hl.push _⟩, fun b hb => ?_, (fun _ _ => intItems_at), fun h' tk t' hk => ?_⟩
  · show b < (s.heap.push _).objs.size
    rw [Heap.size_push]
    simp only [List.mem_cons, List.not_mem_nil, or_false] at hb
    rcases hb with rfl | rfl
    · exact Nat.lt_succ_self _
    · exact Nat.lt_succ_of_lt hlt
  · have := h h' tk t' fun b o e => hk b o (fun hm => by
      have hb := Heap.lt_size e
      rw [List.mem_singleton.mp hm] at hb
      exact Nat.lt_irrefl _ hb) (Heap.get?_push_of_some _ e)
    simpa [intItems] using this
end
def rSumT (K : PySem.W.Frag) : List V → Hp → VK → Prop := fun vs H Q => ∃ (a : Addr) (ns : List Int), vs = [V.ref a] ∧ SqT K H a (ns.map V.int) ∧ Q (.int ns.sum) H
section
variable {X : Cx}
theorem cr_sumT (hc : X.calm = true) : CallR X (.builtin "sum") (rSumT X.K) := by
  intro pins s σ H vs us Q I r h
  obtain ⟨a, ns, rfl, hs, q⟩ := h
  obtain ⟨its, rv, hl, _⟩ := I.tuple hs
  rw [Vals.ref1 r]
  obtain ⟨xs, e⟩ := rv.ints.allInts.items
  have hn : numsOf (intItems xs).toList = ns := by
    rw [← e]
    exact rv.ints.numsOf
  rw [nums_intItems] at hn
  rw [e] at hl
  refine sum_tupW (I.ok.hd hc) hl fun h' tk t' hk => ?_
  rw [preSum_eq, List.take_of_length_le (by simp), hn]
  exact ⟨.int _, H, I.kept hk, ⟨_, rfl⟩, q⟩
def rEqOwn (C : Addr) (sp : Sp) : R2 := fun x y H Q => ∃ a b dx dy fs gs, x = .ref a ∧ y = .ref b ∧ H a = some (.ins C dx fs) ∧ H b = some (.ins C dy gs) ∧ sp [.ref a, .ref b] H (fun v H' => ∃ k, v = .bl k ∧ Q v H') E0
theorem op_eqOwn {n : Nat} {C f : Addr} {fd : FuncData} {ps : List Str} {sp : Sp} (M : Meth X.K C "__eq__" f) (F : FnOk X.prog X.w X.K X.mg X.base CX0 n f fd ps sp) (hb : Binds X.K fd ps []) (hr : Room n X.A) : OpR X (compareOp .Eq) (rEqOwn C sp) := by
  intro pins s σ H x y v u Q I rx ry hq
  obtain ⟨a, b, dx, dy, fs, gs, rfl, rfl, ha, hb', hsp⟩ := hq
  show wpAny (model X.prog X.w) X.A (richCompare .Eq v u) (EP X pins σ Q) X.xe s
  cases rx
  cases ry
  obtain ⟨mA, J, _⟩ := ins_get I.hok ha
  obtain ⟨mB, J', _⟩ := ins_get I.hok hb'
  obtain ⟨od, J, _⟩ := J.look
  obtain ⟨od', J', _⟩ := J'.look
  obtain ⟨m, hF⟩ := I.fr
  refine PySem.W.cmp_K (op := .Eq) (tb := .ref C) hr.units0 hF I.ok.mod.kin J J'.type (by simp [PySem.W.notFirst]) M.at_ M.fn ?_
  refine wpAny_mono (run_fn (us := [.ref a, .ref b]) (vs := [.ref a, .ref b]) (dvs := []) F hr hb .nil pass0 I (.cons rfl (.cons rfl .nil)) hsp) (fun v s' q => ?_) fun _ _ e => e
  obtain ⟨z, H', I', rz, k, ez, q⟩ := q
  subst ez
  cases rz
  exact ⟨.bl k, H', I', rfl, q⟩
def rIsC (C : Addr) : List V → Hp → VK → Prop := fun xs H Q => ∃ a dx fs, xs = [.ref a, .ref C] ∧ H a = some (.ins C dx fs) ∧ Q (.bl true) H
theorem call_isOwn {C : Addr} (c : C8.InsC X.K C) : CallR X (.builtin "isinstance") (rIsC C) := C8.call_isC c
end
end Dw

/-! enumerate(t) of a tuple -/
namespace Dw
open PySem PySem.Spec PyProof.Rows L2
open Sem (wp)
theorem meets_enumB {v : Value} {o : Obj} {G : Heap → Prop} (B : Begins v o G) :
    Meets (Builtin.«enumerate.__new__» ⟨[.type "enumerate", v], []⟩) (fun _ R s => G s.heap ∧
      R (.ok (.ret (.ref (s.heap.push o).objs.size))) { s with heap := (s.heap.push o).push { cls := .type "enumerate", data := .fields #[.none, .bool false, .ref s.heap.objs.size, rawInt 0, .none, .none] } }) :=
  .of_wp fun prog w A R s h => by
    have hsub := sub_enumerate
    obtain ⟨hp, gens, drawn, toks, outs⟩ := s
    obtain ⟨hG, hR⟩ := h
    have itr : ∀ {A' : Around} {E : Value → Shared → Prop} {Q : Value → Shared → Prop}, Q (.ref hp.objs.size) ⟨hp.push o, gens, drawn, toks, outs⟩ → wpAny (model prog w) A' (pyIter v) Q E ⟨hp, gens, drawn, toks, outs⟩ :=
      fun q => B.iter prog w _ _ ⟨hp, gens, drawn, toks, outs⟩ _ hG q
    wp_walk using itr
    refine wpAny_stack_any fun fr => wpAny_pure ?_
    split
    · rename_i cc _ _ _ _ _
      cases (cc == Value.type "enumerate")
      · (wp_walk using itr); exact ⟨_, rfl, hR⟩
      · (wp_walk using itr); exact ⟨_, rfl, hR⟩
    · (wp_walk using itr); exact ⟨_, rfl, hR⟩
section
variable {prog : Program} {w : World} {A : Around} {E : Value → Shared → Prop} {s : Shared}
theorem call_enumB {v : Value} {o : Obj} {G : Heap → Prop} {Q : Value → Shared → Prop} (B : Begins v o G) (hG : G s.heap)
    (h : ∀ h2, IsEnum h2 (s.heap.objs.size + 1) s.heap.objs.size 0 .none → h2.get? s.heap.objs.size = some o → (∀ b o2, s.heap.get? b = some o2 → h2.get? b = some o2) → Q (.ref (s.heap.objs.size + 1)) { s with heap := h2 }) :
    wpAny (model prog w) A (call (.type "enumerate") [v]) Q E s := by
  refine callType_new F.called_enumerate (by decide) (F.typeCall_enumerate_1 _) (F.newCall_enumerate_1 _) (fun ob => F.args_object_init_2 ob _) F.entry_enumerate_new (meets_enumB B) ⟨hG, ?_⟩
  have sz : (s.heap.push o).objs.size = s.heap.objs.size + 1 := Heap.size_push ..
  show _ ∧ _
  have g1 := Heap.get?_push_size (s.heap.push o) (o := { cls := .type "enumerate", data := .fields #[.none, .bool false, .ref s.heap.objs.size, rawInt 0, .none, .none] }) rfl
  rw [sz] at g1 ⊢
  exact ⟨⟨_, g1, rfl⟩, h _ g1 (Heap.get?_push_of_some _ (Heap.get?_push_size _ B.free)) fun b o2 x => Heap.get?_push_of_some _ (Heap.get?_push_of_some _ x)⟩
end
/-- the tuple at a as it stands at each turn, each item in a new pair -/
def Itet (K : PySem.W.Frag) (a : Addr) : It :=
  ⟨fun i H => ∃ (xs : List V) (x : V), SqT K H a xs ∧ xs[i]? = some x, fun i H v H' => ∃ T x, v = .ref T ∧ H T = none ∧ H' = upd H T (.tup [.int (i : Nat), x]) ∧ ∀ xs, SqT K H a xs → xs[i]? = some x, fun i H => ∃ xs : List V, SqT K H a xs ∧ xs.length ≤ i⟩
theorem turn_enumT {P : Program} {w : World} {K : PySem.W.Frag} {elts : List Expr} {kk : Nat} {tpos : Pos} (a e it : Addr) :
    Turn P w K (.Tuple elts kk tpos) (Itet K a) [e, it] e (fun i h => (∃ old, IsEnum h e it ((i : Nat) : Int) old) ∧ h.IsTupleIter it a i ∧ e ≠ it) where
  mem := List.mem_cons_self
  obj := fun i h st b hb => by
    obtain ⟨⟨old, he⟩, ⟨o, ho, hc, hd⟩, _⟩ := st
    rcases List.mem_cons.mp hb with z | z
    · subst z; exact ⟨_, he, fun v q => nomatch q⟩
    · rw [List.mem_singleton.mp z]; exact ⟨o, ho, fun v q => by rw [hd] at q; cases q⟩
  keep := fun i h h' st k => let ⟨⟨old, he⟩, hi, hne⟩ := st; ⟨⟨old, k e List.mem_cons_self _ he⟩, hi.at fun o q => k it (List.mem_cons_of_mem _ List.mem_cons_self) o q, hne⟩
  item := by
    intro X hP hw hK hc i pins s σ H E I hf st hg
    subst hP hw hK
    obtain ⟨⟨old, he⟩, hit, hne⟩ := st
    obtain ⟨xs, x, hq, hx⟩ := hg
    obtain ⟨its, rv, p, hz⟩ := I.tuple hq
    obtain ⟨u, hu, ru⟩ := rv.get hx
    have hel : e < s.heap.objs.size := Heap.lt_size he
    have hil : it < s.heap.objs.size := by obtain ⟨_, q, _⟩ := hit; exact Heap.lt_size q
    have pt : s.heap.IsTuple a its.toArray := p
    have nea : e ≠ a := fun z => by
      subst z
      obtain ⟨o, ho, hc2, _⟩ := pt
      rw [he] at ho
      cases ho
      injection hc2 with hc2
      exact absurd hc2 (by decide)
    have nia : a ≠ it := fun z => by
      subst z
      obtain ⟨o, ho, hc2, _⟩ := pt
      obtain ⟨o3, ho3, hc3, _⟩ := hit
      rw [ho] at ho3
      cases ho3
      rw [hc2] at hc3
      injection hc3 with hc3
      exact absurd hc3 (by decide)
    have hlt : i < its.toArray.size := by
      have := (List.getElem?_eq_some_iff.mp hu).1
      simpa using this
    have D : Draws X.prog X.w X.A.in1 it [it, a] its.toArray.size (fun j v => its.toArray[j]? = some v) (fun j h => h.IsTupleIter it a j ∧ h.IsTuple a its.toArray) := Draws.tuple (A := X.A.in1) (I.ok.hd hc) it a nia its.toArray
    refine wpAny_pyNext_enum_itemD D he ⟨hit, pt⟩ hlt hne (by simp only [List.mem_cons, List.not_mem_nil, or_false, not_or]; exact ⟨hne, nea⟩) fun x2 h' tk hP ho hs' hT hsz hk => ?_
    have ex2 : x2 = u := by
      have h1 : its.toArray[i]? = some x2 := hP
      have h2 : its.toArray[i]? = some u := by simpa using hu
      rw [h1] at h2
      exact Option.some.inj h2
    subst ex2
    refine ⟨_, rfl, wpAny_letOwnedTupleGo_enum (s := { s with heap := h', toks := tk + 1 }) ho fun h2 he2 sb => ?_⟩
    have hT2 : h2.get? s.heap.objs.size = some { cls := .type "tuple", data := .seq #[.int i tk, x2] } := (sb.2 _ (Nat.ne_of_gt hel)).trans hT
    have new : ObjOk X.prog X.w (upd H s.heap.objs.size (.tup [.int (i : Nat), x])) h2 s.heap.objs.size (.tup [.int (i : Nat), x]) :=
      ⟨by show 2 ≤ sizeLine; decide, [.int i tk, x2], .cons ⟨_, rfl⟩ (.cons ru .nil), ⟨_, hT2, rfl, _, rfl⟩⟩
    have I1 : Inv X pins σ (upd H s.heap.objs.size (.tup [.int (i : Nat), x])) { s with heap := h2, toks := tk + 1 } :=
      I.turnedNew (ch := [e, it]) (fun b ob hb q => by
        have n1 : b ≠ e := fun z => hb (by rw [z]; exact List.mem_cons_self)
        have n2 : b ≠ it := fun z => hb (by rw [z]; exact List.mem_cons_of_mem _ List.mem_cons_self)
        exact (sb.2 b n1).trans (hk b ob n1 n2 q)) hf (Nat.le_refl _) new
    refine ⟨.ref s.heap.objs.size, _, I1, rfl, ⟨_, x, rfl, I.hok.fresh (Nat.le_refl _), rfl, fun ys hy => by rw [I.tuple_inj hy hq]; exact hx⟩, ⟨⟨x2, ?_⟩, hs'.1.at fun o q => (sb.2 it (Ne.symm hne)).trans q, hne⟩, fun b hb => ?_⟩
    · rw [Int.natCast_succ]; exact he2
    · have hb2 : b < s.heap.objs.size := by
        rcases List.mem_cons.mp hb with z | z
        · rw [z]; exact hel
        · rw [List.mem_singleton.mp z]; exact hil
      rw [upd_ne (Nat.ne_of_lt hb2)]
      exact (hf b hb).1
  done := by
    intro X hP hw hK hc i pins s σ H E I hf st hg
    subst hP hw hK
    obtain ⟨⟨old, he⟩, hit, hne⟩ := st
    obtain ⟨xs, hq, hx⟩ := hg
    obtain ⟨its, rv, p, hz⟩ := I.tuple hq
    have pt : s.heap.IsTuple a its.toArray := p
    obtain ⟨f0, f1, f2, f3, f4, f5⟩ := hf it (List.mem_cons_of_mem _ List.mem_cons_self)
    have hl := rv.length
    have D : Draws X.prog X.w X.A.in1 it [it, a] i (fun _ _ => True) (fun j h => j = i ∧ h.IsTupleIter it a i ∧ h.IsTuple a its.toArray) :=
      { live := fun _ _ st => let ⟨o, ho, _⟩ := st.2.1; ⟨o, ho⟩
        frame := fun _ _ _ st k => ⟨st.1, st.2.1.at fun o e => k it List.mem_cons_self o e, st.2.2.at fun o e => k a (List.mem_cons_of_mem _ List.mem_cons_self) o e⟩
        item := fun j s Q E hj st _ => absurd st.1 (Nat.ne_of_lt hj)
        done := fun s Q E st hE => wpAny_nextOf_tuple_end (A := X.A.in1) (I.ok.hd hc) st.2.1 st.2.2 (by simp; omega) hE }
    exact wpAny_pyNext_enum_endD D he ⟨rfl, hit, pt⟩ fun h2 eb => ⟨rfl, I.turned (t' := s.toks) (fun b o hb q => eb b o hb q) f0 f1 f3 f4 f5⟩
  self := fun A i s Q E st h => let ⟨⟨_, he⟩, _⟩ := st; wpAny_pyIter_enum he h
def iEnumT (K : PySem.W.Frag) (ta : TA) : TI := fun σ H R => ta σ H fun vs H1 => ∃ a xs, vs = [.ref a] ∧ SqT K H1 a xs ∧ R (Itet K a) H1
theorem pi_enumT {X : Cx} {e : Expr} {ta : TA} {p pos tpos : Pos} {elts : List Expr} {kk : Nat} (hg : Gl X "enumerate") (hm : X.mg "enumerate" = none) (ha : PA X [e] ta) (hs : starEach [e] X.env = [(false, eval e X.env)] := by rfl) :
    PI X (.Tuple elts kk tpos) (.Call (.Name "enumerate" p) [e] [] pos) (iEnumT X.K ta) := by
  refine ⟨fun pins s σ H R I h => Call_ (ld_blt I hg hm boot_enumerate (PyProof.Rows.callWith_type1 (thn (ha.run pos pins s σ H _ I h) fun us s1 ⟨vs, H1, I1, r1, q1⟩ => ?_) hs rfl))⟩
  obtain ⟨a, xs, ex, hq, q⟩ := q1
  subst ex
  cases r1 with
  | cons r rr =>
    cases rr
    cases r
    obtain ⟨its, rv, p', hz⟩ := I1.tuple hq
    have pt : s1.heap.IsTuple a its.toArray := p'
    refine call_enumB (begins_tuple a its.toArray) pt fun h2 he hit hk => wpAny_pyIter_enum he ?_
    have I2 : Inv X pins σ H1 { s1 with heap := h2 } := I1.kept (t' := s1.toks) hk
    refine ⟨_, [s1.heap.objs.size + 1, s1.heap.objs.size], _, _, H1, rfl, I2, turn_enumT a (s1.heap.objs.size + 1) s1.heap.objs.size, ⟨⟨.none, he⟩, ⟨_, hit, rfl, rfl⟩, Nat.succ_ne_self _⟩, fun b hb => ?_, q⟩
    have hle : s1.heap.objs.size ≤ b := by
      rcases List.mem_cons.mp hb with z | z
      · rw [z]; exact Nat.le_succ _
      · rw [List.mem_singleton.mp z]; exact Nat.le_refl _
    exact I1.fpOk hle (I1.hok.fresh hle)
theorem walk_enumT {K : PySem.W.Frag} {a : Addr} {xs : List V} : Walk (Itet K a) xs.length (fun H => SqT K H a xs) (YPair (fun i => some (.int (i : Nat))) (fun i => xs[i]?)) := by
  refine ⟨fun i _ hi q => ⟨xs, xs[i], q, by simp [hi]⟩, fun _ q => ⟨xs, q, Nat.le_refl _⟩, fun i H v H' _ q y => ?_⟩
  obtain ⟨t, x, h1, h2, h3, h4⟩ := y
  exact ⟨t, .int (i : Nat), x, h1, h2, h3, rfl, h4 xs q⟩
end Dw

/-! flux at another speed, and the following clock -/
namespace Dw
open PySem PySem.Spec PyProof.Rows L2
def scl (t p q : Int) : Int := (2 * t * p + q) / (2 * q)
def okPart (p : Int) : Prop := 1 ≤ p ∧ p ≤ 1000
def onesZ (ms : List Int) : List Int := (ms.map oneCells).flatten
theorem onesZ_more {ms : List Int} {m : Int} : onesZ (ms ++ [m]) = onesZ ms ++ oneCells m := by
  unfold onesZ
  rw [List.map_append, List.flatten_append]
  simp
theorem onesZ_len {M : Nat} : ∀ {ms : List Int}, (∀ m ∈ ms, 1 ≤ m ∧ m ≤ (M : Int)) → (onesZ ms).length ≤ M * ms.length
  | [], _ => Nat.zero_le _
  | m :: r, h => by
    have h1 := h m List.mem_cons_self
    have ih := onesZ_len (ms := r) fun x hx => h x (List.mem_cons_of_mem _ hx)
    have e : onesZ (m :: r) = oneCells m ++ onesZ r := by unfold onesZ; rw [List.map_cons, List.flatten_cons]
    rw [e, List.length_append, oneCells_nat h1.1, List.length_cons, Nat.mul_succ]
    omega
theorem flux_zeros (c : Int) : ∀ (n : Nat) (L : List Int) (k : Int), (List.replicate n (0 : Int)).foldl (fluxT c) (L, k) = (L, k + n)
  | 0, L, k => by simp
  | n + 1, L, k => by
    rw [List.replicate_succ, List.foldl_cons]
    have e : fluxT c (L, k) 0 = (L, k + 1) := by unfold fluxT; rw [if_neg (by decide)]
    rw [e, flux_zeros c n L (k + 1)]
    congr 1
    omega
theorem flux_one {c m : Int} (h : 1 ≤ m) (L : List Int) : (oneCells m).foldl (fluxT c) (L, 0) = (L ++ [c * m], 0) := by
  unfold oneCells
  rw [List.foldl_append, flux_zeros]
  show fluxT c (L, 0 + ((m - 1).toNat : Int)) 1 = _
  unfold fluxT
  rw [if_pos rfl]
  have e : 0 + ((m - 1).toNat : Int) + 1 = m := by omega
  show (L ++ [c * (0 + ((m - 1).toNat : Int) + 1)], 0) = _
  rw [e]
theorem flux_ones {c : Int} : ∀ {ms : List Int} (L : List Int), (∀ m ∈ ms, 1 ≤ m) → (onesZ ms).foldl (fluxT c) (L, 0) = (L ++ ms.map (c * ·), 0)
  | [], L, _ => by simp [onesZ]
  | m :: r, L, h => by
    have e : onesZ (m :: r) = oneCells m ++ onesZ r := by unfold onesZ; rw [List.map_cons, List.flatten_cons]
    rw [e, List.foldl_append, flux_one (h m List.mem_cons_self), flux_ones _ fun x hx => h x (List.mem_cons_of_mem _ hx)]
    simp
theorem flux_cells {c : Int} {ms : List Int} (h : ∀ m ∈ ms, 1 ≤ m) (z : Nat) : fluxS c (onesZ ms ++ List.replicate z 0) = (ms.map (c * ·), (z : Int)) := by
  unfold fluxS
  rw [List.foldl_append, flux_ones [] h, flux_zeros]
  simp
/-! ### one interval at another speed -/
theorem scl_near {c m p q : Int} (hq : 0 < q) : -q < 2 * (q * scl (c * m) p q) - 2 * (c * m * p) ∧ 2 * (q * scl (c * m) p q) - 2 * (c * m * p) ≤ q := by
  unfold scl
  have h1 := Int.emod_add_mul_ediv (2 * (c * m) * p + q) (2 * q)
  have h2 := Int.emod_nonneg (2 * (c * m) * p + q) (show 2 * q ≠ 0 by omega)
  have h3 := Int.emod_lt_of_pos (2 * (c * m) * p + q) (show 0 < 2 * q by omega)
  have e : 2 * (c * m) * p = 2 * (c * m * p) := by rw [Int.mul_assoc]
  rw [e] at h1 h2 h3 ⊢
  have e2 : 2 * q * ((2 * (c * m * p) + q) / (2 * q)) = 2 * (q * ((2 * (c * m * p) + q) / (2 * q))) := by rw [Int.mul_assoc]
  rw [e2] at h1
  omega
/-- the period lies near the true one -/
def Near (c p q per : Int) : Prop := -(q * c) ≤ q * per - 16 * (c * p) ∧ q * per - 16 * (c * p) ≤ q * c
theorem div_is {a b m : Int} (hb : 0 < b) (h1 : m * b ≤ a) (h2 : a < (m + 1) * b) : a / b = m := by
  have h3 : m ≤ a / b := Int.le_ediv_of_mul_le hb h1
  have h4 : a / b < m + 1 := Int.ediv_lt_of_lt_mul hb h2
  omega
theorem le_of_q {q a b : Int} (hq : 0 < q) (h : q * a ≤ q * b) : a ≤ b := Int.le_of_mul_le_mul_left h hq
theorem lt_of_q {q a b : Int} (hq : 0 < q) (h : q * a < q * b) : a < b := Int.lt_of_mul_lt_mul_left h (Int.le_of_lt hq)
theorem count_right {c p q per m : Int} (hq : 0 < q) (hc : 80 ≤ c) (hp : 15 * q ≤ 16 * p ∧ 16 * p ≤ 17 * q) (hn : Near c p q per) (hm : m = 0 ∨ m = 1 ∨ m = 2 ∨ m = 3 ∨ m = 4) : (32 * scl (c * m) p q + per) / (2 * per) = m := by
  obtain ⟨n1, n2⟩ := hn
  obtain ⟨s1, s2⟩ := scl_near (c := c) (m := m) (p := p) hq
  have b1 : 15 * (q * c) ≤ 16 * (c * p) := by
    have := Int.mul_le_mul_of_nonneg_right hp.1 (show 0 ≤ c by omega)
    have e1 : 15 * q * c = 15 * (q * c) := Int.mul_assoc _ _ _
    have e2 : 16 * p * c = 16 * (c * p) := by rw [Int.mul_assoc, Int.mul_comm p c]
    omega
  have b3 : 80 * q ≤ q * c := by
    have := Int.mul_le_mul_of_nonneg_left hc (show 0 ≤ q by omega)
    rw [Int.mul_comm q 80] at this
    exact this
  have em : c * m * p = m * (c * p) := by rw [Int.mul_comm c m, Int.mul_assoc]
  rw [em] at s1 s2
  have hpos : 0 < per := by
    refine lt_of_q hq ?_
    rw [Int.mul_zero]
    omega
  generalize scl (c * m) p q = t at s1 s2 ⊢
  have x1 : q * (32 * t + per) = 32 * (q * t) + q * per := by rw [Int.mul_add, Int.mul_left_comm]
  have x2 : ∀ k : Int, q * (k * (2 * per)) = 2 * k * (q * per) := fun k => by
    rw [Int.mul_left_comm, Int.mul_left_comm q 2 per, ← Int.mul_assoc, Int.mul_comm k 2]
  refine div_is (by omega) (le_of_q hq ?_) (lt_of_q hq ?_)
  · rw [x1, x2]
    generalize q * per = X at *
    generalize q * t = Y at *
    generalize c * p = A at *
    generalize q * c = B at *
    rcases hm with rfl | rfl | rfl | rfl | rfl <;> omega
  · rw [x1, x2]
    generalize q * per = X at *
    generalize q * t = Y at *
    generalize c * p = A at *
    generalize q * c = B at *
    rcases hm with rfl | rfl | rfl | rfl | rfl <;> omega
theorem period_near {c p q per m : Int} (hq : 0 < q) (hc : 80 ≤ c) (hp : 15 * q ≤ 16 * p ∧ 16 * p ≤ 17 * q) (hn : Near c p q per) (hm : m = 1 ∨ m = 2 ∨ m = 3 ∨ m = 4) :
    folN (scl (c * m) p q) per = m ∧ Near c p q (folP (scl (c * m) p q) per c) := by
  have hN : folN (scl (c * m) p q) per = m := by
    unfold folN
    rw [count_right hq hc hp hn (by omega)]
    omega
  refine ⟨hN, ?_⟩
  obtain ⟨n1, n2⟩ := hn
  obtain ⟨s1, s2⟩ := scl_near (c := c) (m := m) (p := p) hq
  have b1 : 15 * (q * c) ≤ 16 * (c * p) := by
    have := Int.mul_le_mul_of_nonneg_right hp.1 (show 0 ≤ c by omega)
    have e1 : 15 * q * c = 15 * (q * c) := Int.mul_assoc _ _ _
    have e2 : 16 * p * c = 16 * (c * p) := by rw [Int.mul_assoc, Int.mul_comm p c]
    omega
  have b2 : 16 * (c * p) ≤ 17 * (q * c) := by
    have := Int.mul_le_mul_of_nonneg_right hp.2 (show 0 ≤ c by omega)
    have e1 : 17 * q * c = 17 * (q * c) := Int.mul_assoc _ _ _
    have e2 : 16 * p * c = 16 * (c * p) := by rw [Int.mul_assoc, Int.mul_comm p c]
    omega
  have b3 : 80 * q ≤ q * c := by
    have := Int.mul_le_mul_of_nonneg_left hc (show 0 ≤ q by omega)
    rw [Int.mul_comm q 80] at this
    exact this
  have em : c * m * p = m * (c * p) := by rw [Int.mul_comm c m, Int.mul_assoc]
  rw [em] at s1 s2
  unfold folP
  rw [hN]
  generalize scl (c * m) p q = t at s1 s2 ⊢
  have d1 := Int.emod_add_mul_ediv (16 * t - m * per) (8 * m)
  have d2 := Int.emod_nonneg (16 * t - m * per) (show 8 * m ≠ 0 by omega)
  have d3 := Int.emod_lt_of_pos (16 * t - m * per) (show 0 < 8 * m by omega)
  generalize (16 * t - m * per) / (8 * m) = d at d1 ⊢
  generalize (16 * t - m * per) % (8 * m) = r at d1 d2 d3
  have f1 : q * r + 8 * m * (q * d) = 16 * (q * t) - m * (q * per) := by
    have := congrArg (q * ·) d1
    rw [Int.mul_add, Int.mul_sub, Int.mul_left_comm q 16 t, Int.mul_left_comm q m per, Int.mul_left_comm q (8 * m) d] at this
    exact this
  have r1 : 0 ≤ q * r := Int.mul_nonneg (by omega) d2
  have r2 : q * r < q * (8 * m) := Int.mul_lt_mul_of_pos_left d3 hq
  have key : -(q * c) ≤ q * (per + d) - 16 * (c * p) ∧ q * (per + d) - 16 * (c * p) ≤ q * c := by
    rw [Int.mul_add]
    generalize q * per = X at *
    generalize q * t = Y at *
    generalize c * p = A at *
    generalize q * c = B at *
    generalize q * d = Z at *
    generalize q * r = R at *
    rcases hm with rfl | rfl | rfl | rfl <;> omega
  have lo : 12 * c ≤ per + d := by
    refine le_of_q hq ?_
    rw [Int.mul_left_comm]
    omega
  have hi : per + d ≤ 20 * c := by
    refine le_of_q hq ?_
    rw [Int.mul_left_comm]
    omega
  have e : min (max (per + d) (12 * c)) (20 * c) = per + d := by omega
  rw [e]
  exact key
theorem scl_size {c p q m : Int} (hq : 0 < q) (hc : 80 ≤ c) (hc2 : c ≤ 1000) (hp : 15 * q ≤ 16 * p ∧ 16 * p ≤ 17 * q) (hm : m = 1 ∨ m = 2 ∨ m = 3 ∨ m = 4) : 1 ≤ scl (c * m) p q ∧ scl (c * m) p q ≤ 5000 := by
  obtain ⟨s1, s2⟩ := scl_near (c := c) (m := m) (p := p) hq
  have b1 : 15 * (q * c) ≤ 16 * (c * p) := by
    have := Int.mul_le_mul_of_nonneg_right hp.1 (show 0 ≤ c by omega)
    have e1 : 15 * q * c = 15 * (q * c) := Int.mul_assoc _ _ _
    have e2 : 16 * p * c = 16 * (c * p) := by rw [Int.mul_assoc, Int.mul_comm p c]
    omega
  have b2 : 16 * (c * p) ≤ 17 * (q * c) := by
    have := Int.mul_le_mul_of_nonneg_right hp.2 (show 0 ≤ c by omega)
    have e1 : 17 * q * c = 17 * (q * c) := Int.mul_assoc _ _ _
    have e2 : 16 * p * c = 16 * (c * p) := by rw [Int.mul_assoc, Int.mul_comm p c]
    omega
  have b3 : 80 * q ≤ q * c := by
    have := Int.mul_le_mul_of_nonneg_left hc (show 0 ≤ q by omega)
    rw [Int.mul_comm q 80] at this
    exact this
  have b4 : q * c ≤ 1000 * q := by
    have := Int.mul_le_mul_of_nonneg_left hc2 (show 0 ≤ q by omega)
    rw [Int.mul_comm q 1000] at this
    exact this
  have em : c * m * p = m * (c * p) := by rw [Int.mul_comm c m, Int.mul_assoc]
  rw [em] at s1 s2
  generalize scl (c * m) p q = t at s1 s2 ⊢
  have g1 : q * 1 ≤ q * t := by
    generalize q * t = Y at *
    generalize c * p = A at *
    generalize q * c = B at *
    rcases hm with rfl | rfl | rfl | rfl <;> omega
  have g2 : q * t ≤ q * 5000 := by
    generalize q * t = Y at *
    generalize c * p = A at *
    generalize q * c = B at *
    rcases hm with rfl | rfl | rfl | rfl <;> omega
  exact ⟨le_of_q hq g1, le_of_q hq g2⟩
def C14 (ms : List Int) : Prop := ∀ m ∈ ms, m = 1 ∨ m = 2 ∨ m = 3 ∨ m = 4
theorem follow_fold {c p q : Int} (hq : 0 < q) (hc : 80 ≤ c) (hp : 15 * q ≤ 16 * p ∧ 16 * p ≤ 17 * q) : ∀ (ms : List Int) (per : Int) (out : List Int), C14 ms → Near c p q per →
    ∃ per2, Near c p q per2 ∧ (ms.map fun m => scl (c * m) p q).foldl (folT c) (per, out) = (per2, out ++ onesZ ms)
  | [], per, out, _, h => ⟨per, h, by simp [onesZ]⟩
  | m :: r, per, out, hm, h => by
    obtain ⟨h1, h2⟩ := period_near hq hc hp h (hm m List.mem_cons_self)
    obtain ⟨per2, h3, h4⟩ := follow_fold hq hc hp r _ (out ++ oneCells m) (fun x hx => hm x (List.mem_cons_of_mem _ hx)) h2
    refine ⟨per2, h3, ?_⟩
    rw [List.map_cons, List.foldl_cons]
    have e : folT c (per, out) (scl (c * m) p q) = (folP (scl (c * m) p q) per c, out ++ oneCells m) := by
      unfold folT
      simp only
      rw [h1]
    rw [e, h4, List.append_assoc]
    rfl
theorem follow_back {c p q : Int} (hq : 0 < q) (hc : 80 ≤ c) (hp : 15 * q ≤ 16 * p ∧ 16 * p ≤ 17 * q) {ms : List Int} (hm : C14 ms) {z : Nat} (hz : z ≤ 4) :
    followZ (ms.map fun m => scl (c * m) p q) (scl (c * (z : Int)) p q) c = onesZ ms ++ List.replicate z 0 ∧ folR (scl (c * (z : Int)) p q) (folS c (ms.map fun m => scl (c * m) p q)).1 = z ∧ (folS c (ms.map fun m => scl (c * m) p q)).2 = onesZ ms := by
  have h0 : Near c p q (16 * c) := by
    have b1 := Int.mul_le_mul_of_nonneg_right hp.1 (show 0 ≤ c by omega)
    have b2 := Int.mul_le_mul_of_nonneg_right hp.2 (show 0 ≤ c by omega)
    have e1 : 15 * q * c = 15 * (q * c) := Int.mul_assoc _ _ _
    have e2 : 16 * p * c = 16 * (c * p) := by rw [Int.mul_assoc, Int.mul_comm p c]
    have e3 : 17 * q * c = 17 * (q * c) := Int.mul_assoc _ _ _
    have e4 : q * (16 * c) = 16 * (q * c) := Int.mul_left_comm _ _ _
    unfold Near
    rw [e4]
    omega
  obtain ⟨per2, h1, h2⟩ := follow_fold hq hc hp ms (16 * c) [] hm h0
  have h3 : folS c (ms.map fun m => scl (c * m) p q) = (per2, onesZ ms) := h2
  have h4 : folR (scl (c * (z : Int)) p q) per2 = z := by
    unfold folR
    exact count_right hq hc hp h1 (by omega)
  unfold followZ
  rw [h3]
  refine ⟨?_, h4, rfl⟩
  simp only
  rw [h4, Int.toNat_natCast]
/-! ### the fixed clock -/
theorem fixed_ones {c : Int} (hc : 0 < c) : ∀ {ms ts : List Int}, ts.length = ms.length → (∀ (i : Nat) m t, ms[i]? = some m → ts[i]? = some t → 1 ≤ m ∧ ∃ e, t = c * m + e ∧ -c < 2 * e ∧ 2 * e < c) → fixedP ts c = onesZ ms
  | [], [], _, _ => rfl
  | [], _ :: _, h, _ => by cases h
  | _ :: _, [], h, _ => by cases h
  | m :: ms, t :: ts, h, hx => by
    obtain ⟨h1, e, rfl, h2, h3⟩ := hx 0 m t rfl rfl
    have ih := fixed_ones hc (ms := ms) (ts := ts) (by simpa using h) fun i m t a b => hx (i + 1) m t a b
    have e1 : fixedP ((c * m + e) :: ts) c = oneCells (max 1 (nCells (c * m + e) c)) ++ fixedP ts c := by
      unfold fixedP
      rw [List.map_cons, List.flatten_cons]
    have e2 : onesZ (m :: ms) = oneCells m ++ onesZ ms := by unfold onesZ; rw [List.map_cons, List.flatten_cons]
    have e3 : max 1 m = m := by omega
    rw [e1, e2, ih, nCells_mul hc h2 h3, e3]
end Dw

namespace K83
open PySem PySem.Spec PyProof.Rows L2 Dw
def topS (i : Nat) : Stmt := PySem.Challenge.pw_discwright_k83_whole_clocks_withstand_no.main.body.getD i (.Pass ⟨0, 0, 0, 0⟩)
abbrev s_Readinit : Stmt := inClass (topS 10) 0
abbrev n_Readinit : List Str := ["self", "intervals", "rest", "ticks"]
theorem sc_Readinit : FnScope n_Readinit ["self", "intervals", "rest"] (defScope s_Readinit) := ⟨rfl, rfl, rfl, by decide +kernel, rfl, by decide +kernel, by decide +kernel⟩
abbrev s_is_cell : Stmt := topS 11
abbrev n_is_cell : List Str := ["cell"]
theorem sc_is_cell : FnScope n_is_cell ["cell"] (defScope s_is_cell) := ⟨rfl, rfl, rfl, by decide +kernel, rfl, by decide +kernel, by decide +kernel⟩
abbrev s_check_cell : Stmt := topS 12
abbrev n_check_cell : List Str := ["cell"]
theorem sc_check_cell : FnScope n_check_cell ["cell"] (defScope s_check_cell) := ⟨rfl, rfl, rfl, by decide +kernel, rfl, by decide +kernel, by decide +kernel⟩
abbrev s_flux_of : Stmt := topS 13
abbrev n_flux_of : List Str := ["cells", "cell", "intervals", "count", "bit"]
theorem sc_flux_of : FnScope n_flux_of ["cells", "cell"] (defScope s_flux_of) := ⟨rfl, rfl, rfl, by decide +kernel, rfl, by decide +kernel, by decide +kernel⟩
abbrev s_fixed_cells : Stmt := topS 14
abbrev n_fixed_cells : List Str := ["read", "cell", "cells", "ticks", "count"]
theorem sc_fixed_cells : FnScope n_fixed_cells ["read", "cell"] (defScope s_fixed_cells) := ⟨rfl, rfl, rfl, by decide +kernel, rfl, by decide +kernel, by decide +kernel⟩
abbrev s_following_cells : Stmt := topS 15
abbrev n_following_cells : List Str := ["read", "cell", "cells", "period", "ticks", "count", "drift"]
theorem sc_following_cells : FnScope n_following_cells ["read", "cell"] (defScope s_following_cells) := ⟨rfl, rfl, rfl, by decide +kernel, rfl, by decide +kernel, by decide +kernel⟩
abbrev s_jittered : Stmt := topS 18
abbrev n_jittered : List Str := ["read", "amounts", "intervals", "at", "ticks"]
theorem sc_jittered : FnScope n_jittered ["read", "amounts"] (defScope s_jittered) := ⟨rfl, rfl, rfl, by decide +kernel, rfl, by decide +kernel, by decide +kernel⟩
abbrev s_scaled : Stmt := topS 19
abbrev n_scaled : List Str := ["ticks", "p", "q"]
theorem sc_scaled : FnScope n_scaled ["ticks", "p", "q"] (defScope s_scaled) := ⟨rfl, rfl, rfl, by decide +kernel, rfl, by decide +kernel, by decide +kernel⟩
abbrev s_at_speed : Stmt := topS 20
abbrev n_at_speed : List Str := ["read", "p", "q", "intervals", "ticks"]
theorem sc_at_speed : FnScope n_at_speed ["read", "p", "q"] (defScope s_at_speed) := ⟨rfl, rfl, rfl, by decide +kernel, rfl, by decide +kernel, by decide +kernel⟩
abbrev s_law_cell : Stmt := topS 22
abbrev n_law_cell : List Str := ["script", "k"]
theorem sc_law_cell : FnScope n_law_cell ["script", "k"] (defScope s_law_cell) := ⟨rfl, rfl, rfl, by decide +kernel, rfl, by decide +kernel, by decide +kernel⟩
abbrev s_law_draws : Stmt := topS 23
abbrev n_law_draws : List Str := ["cell", "count", "rows", "left", "k", "mixed"]
theorem sc_law_draws : FnScope n_law_draws ["cell", "count"] (defScope s_law_draws) := ⟨rfl, rfl, rfl, by decide +kernel, rfl, by decide +kernel, by decide +kernel⟩
abbrev s_law_is_int : Stmt := topS 24
abbrev n_law_is_int : List Str := ["x"]
theorem sc_law_is_int : FnScope n_law_is_int ["x"] (defScope s_law_is_int) := ⟨rfl, rfl, rfl, by decide +kernel, rfl, by decide +kernel, by decide +kernel⟩
abbrev s_law_ints : Stmt := topS 25
abbrev n_law_ints : List Str := ["x", "kind", "k"]
theorem sc_law_ints : FnScope n_law_ints ["x", "kind"] (defScope s_law_ints) := ⟨rfl, rfl, rfl, by decide +kernel, rfl, by decide +kernel, by decide +kernel⟩
abbrev s_law_is_list : Stmt := topS 26
abbrev n_law_is_list : List Str := ["x", "due"]
theorem sc_law_is_list : FnScope n_law_is_list ["x", "due"] (defScope s_law_is_list) := ⟨rfl, rfl, rfl, by decide +kernel, rfl, by decide +kernel, by decide +kernel⟩
abbrev s_law : Stmt := topS 27
abbrev n_law : List Str := ["script", "draws", "cell", "cells", "k", "read", "q", "low", "high", "p", "most", "amounts"]
theorem sc_law : FnScope n_law ["script"] (defScope s_law) := ⟨rfl, rfl, rfl, by decide +kernel, rfl, by decide +kernel, by decide +kernel⟩
/-- where the defs stand -/
structure Ad where
  f_Readinit : Addr
  d_Readinit : FuncData
  f_is_cell : Addr
  d_is_cell : FuncData
  f_check_cell : Addr
  d_check_cell : FuncData
  f_flux_of : Addr
  d_flux_of : FuncData
  f_fixed_cells : Addr
  d_fixed_cells : FuncData
  f_following_cells : Addr
  d_following_cells : FuncData
  f_jittered : Addr
  d_jittered : FuncData
  f_scaled : Addr
  d_scaled : FuncData
  f_at_speed : Addr
  d_at_speed : FuncData
  f_law_cell : Addr
  d_law_cell : FuncData
  f_law_draws : Addr
  d_law_draws : FuncData
  f_law_is_int : Addr
  d_law_is_int : FuncData
  f_law_ints : Addr
  d_law_ints : FuncData
  f_law_is_list : Addr
  d_law_is_list : FuncData
  f_law : Addr
  d_law : FuncData
  u_MOST_INTERVALS : Value
  u_MOST_TICKS : Value
  u_LEAST_CELL : Value
  u_GREATEST_CELL : Value
  u_GREATEST_PART : Value
  c_Read : Addr
  c_InvalidRead : Addr
  c_InvalidCell : Addr
/-- what the top has written -/
structure Tx (K : PySem.W.Frag) (mg : Str → Option Value) (A : Ad) : Prop where
  F_Readinit : Fun K "__init__" "Read.__init__" s_Readinit A.f_Readinit A.d_Readinit
  b_Readinit : Binds K A.d_Readinit ["self", "intervals", "rest"] []
  F_is_cell : Fun K "is_cell" "is_cell" s_is_cell A.f_is_cell A.d_is_cell
  b_is_cell : Binds K A.d_is_cell ["cell"] []
  g_is_cell : mg "is_cell" = some (.ref A.f_is_cell)
  F_check_cell : Fun K "check_cell" "check_cell" s_check_cell A.f_check_cell A.d_check_cell
  b_check_cell : Binds K A.d_check_cell ["cell"] []
  g_check_cell : mg "check_cell" = some (.ref A.f_check_cell)
  F_flux_of : Fun K "flux_of" "flux_of" s_flux_of A.f_flux_of A.d_flux_of
  b_flux_of : Binds K A.d_flux_of ["cells", "cell"] []
  g_flux_of : mg "flux_of" = some (.ref A.f_flux_of)
  F_fixed_cells : Fun K "fixed_cells" "fixed_cells" s_fixed_cells A.f_fixed_cells A.d_fixed_cells
  b_fixed_cells : Binds K A.d_fixed_cells ["read", "cell"] []
  g_fixed_cells : mg "fixed_cells" = some (.ref A.f_fixed_cells)
  F_following_cells : Fun K "following_cells" "following_cells" s_following_cells A.f_following_cells A.d_following_cells
  b_following_cells : Binds K A.d_following_cells ["read", "cell"] []
  g_following_cells : mg "following_cells" = some (.ref A.f_following_cells)
  F_jittered : Fun K "jittered" "jittered" s_jittered A.f_jittered A.d_jittered
  b_jittered : Binds K A.d_jittered ["read", "amounts"] []
  g_jittered : mg "jittered" = some (.ref A.f_jittered)
  F_scaled : Fun K "scaled" "scaled" s_scaled A.f_scaled A.d_scaled
  b_scaled : Binds K A.d_scaled ["ticks", "p", "q"] []
  g_scaled : mg "scaled" = some (.ref A.f_scaled)
  F_at_speed : Fun K "at_speed" "at_speed" s_at_speed A.f_at_speed A.d_at_speed
  b_at_speed : Binds K A.d_at_speed ["read", "p", "q"] []
  g_at_speed : mg "at_speed" = some (.ref A.f_at_speed)
  F_law_cell : Fun K "_law_cell" "_law_cell" s_law_cell A.f_law_cell A.d_law_cell
  b_law_cell : Binds K A.d_law_cell ["script", "k"] []
  g_law_cell : mg "_law_cell" = some (.ref A.f_law_cell)
  F_law_draws : Fun K "_law_draws" "_law_draws" s_law_draws A.f_law_draws A.d_law_draws
  b_law_draws : Binds K A.d_law_draws ["cell", "count"] []
  g_law_draws : mg "_law_draws" = some (.ref A.f_law_draws)
  F_law_is_int : Fun K "_law_is_int" "_law_is_int" s_law_is_int A.f_law_is_int A.d_law_is_int
  b_law_is_int : Binds K A.d_law_is_int ["x"] []
  g_law_is_int : mg "_law_is_int" = some (.ref A.f_law_is_int)
  F_law_ints : Fun K "_law_ints" "_law_ints" s_law_ints A.f_law_ints A.d_law_ints
  b_law_ints : Binds K A.d_law_ints ["x", "kind"] []
  g_law_ints : mg "_law_ints" = some (.ref A.f_law_ints)
  F_law_is_list : Fun K "_law_is_list" "_law_is_list" s_law_is_list A.f_law_is_list A.d_law_is_list
  b_law_is_list : Binds K A.d_law_is_list ["x", "due"] []
  g_law_is_list : mg "_law_is_list" = some (.ref A.f_law_is_list)
  F_law : Fun K "law" "law" s_law A.f_law A.d_law
  b_law : Binds K A.d_law ["script"] []
  g_law : mg "law" = some (.ref A.f_law)
  z_all : mg "all" = none
  z_bool : mg "bool" = none
  z_enumerate : mg "enumerate" = none
  z_int : mg "int" = none
  z_isinstance : mg "isinstance" = none
  z_len : mg "len" = none
  z_list : mg "list" = none
  z_max : mg "max" = none
  z_min : mg "min" = none
  z_range : mg "range" = none
  z_tuple : mg "tuple" = none
  c_MOST_INTERVALS : mg "MOST_INTERVALS" = some A.u_MOST_INTERVALS
  r_MOST_INTERVALS : RelV (.int 60000) A.u_MOST_INTERVALS
  c_MOST_TICKS : mg "MOST_TICKS" = some A.u_MOST_TICKS
  r_MOST_TICKS : RelV (.int 1000000) A.u_MOST_TICKS
  c_LEAST_CELL : mg "LEAST_CELL" = some A.u_LEAST_CELL
  r_LEAST_CELL : RelV (.int 10) A.u_LEAST_CELL
  c_GREATEST_CELL : mg "GREATEST_CELL" = some A.u_GREATEST_CELL
  r_GREATEST_CELL : RelV (.int 1000) A.u_GREATEST_CELL
  c_GREATEST_PART : mg "GREATEST_PART" = some A.u_GREATEST_PART
  r_GREATEST_PART : RelV (.int 1000) A.u_GREATEST_PART
  gc_Read : mg "Read" = some (.ref A.c_Read)
  cl_Read : Cls K A.c_Read
  mk_Read : Mk K A.c_Read A.f_Readinit
  na_Read_intervals : NoAttr K A.c_Read "intervals"
  na_Read_rest : NoAttr K A.c_Read "rest"
  x_InvalidRead : ExcF K mg "InvalidRead" A.c_InvalidRead
  x_InvalidCell : ExcF K mg "InvalidCell" A.c_InvalidCell
section
variable {P : Program} {w : World} {K : PySem.W.Frag} {mg : Str → Option Value} {base : Heap} {A : Ad}
theorem ok_law_cell (T : Tx K mg A) : FnOk P w K mg base CX0 1 A.f_law_cell A.d_law_cell ["script", "k"] (Dw.spCell K) := by
  refine T.F_law_cell.ok sc_law_cell (fun vs H Q E h => ?_) (fun cdv A' outer s H vs Q E hr h => ?_)
  · obtain ⟨a, ns, k, rfl, _⟩ := h
    rfl
  obtain ⟨a, ns, n, rfl, hS, n0, k⟩ := h
  refine ⟨_, (pss_cons (ps_if (pt_cmpR op_lt (pv 1) (pe_callB call_len_seq (by rfl) T.z_len (by decide +kernel) (pa_cons (pv 0) pa_nil)) (nomark _)) (pss_one (ps_ret (pe_ix ix_list (pv 0) (pv 1) (fun _ _ => rfl)))) pss_nil)
      (pss_one (ps_ret pe_int))), ?_⟩
  refine ⟨_, rfl, _, rfl, a, _, rfl, .inl hS, _, _, rfl, rfl, _, rfl, ?_⟩
  rw [List.length_map]
  by_cases c : n < (ns.length : Int)
  · refine ite_t (decide_eq_true c) ?_
    exact ⟨_, rfl, _, rfl, a, _, n, _, rfl, rfl, hS, atI_int n0 c, k _⟩
  · refine ite_f (decide_eq_false c) ?_
    exact k _
theorem ok_law_draws (T : Tx K mg A) : FnOk P w K mg base CX0 1 A.f_law_draws A.d_law_draws ["cell", "count"] spDraws := by
  refine T.F_law_draws.ok sc_law_draws (fun vs H Q E h => ?_) (fun cdv A' outer s H vs Q E hr h => ?_)
  · obtain ⟨c, n, rfl, _⟩ := h
    rfl
  obtain ⟨c, n, rfl, n0, n1, k⟩ := h
  refine ⟨_, (pss_cons (ps_set (i := 2) sc_law_draws.nd rfl (Or.inl rfl) (pe_lstI pa_nil))
      (pss_cons (ps_set (i := 3) sc_law_draws.nd rfl (Or.inl rfl) (pv 0))
      (pss_cons (ps_for PassesOwn.never rfl (pi_range1 rfl T.z_range (pa_cons (pv 1) pa_nil)) (pg_name (i := 4) sc_law_draws.nd rfl (Or.inl rfl))
        (pss_one (ps_if (PW.pt (pw_and (pt_cmpR op_ge (pv 0) (pe_op op_pow pe_int pe_int) (nomark _)) (pw_and1 (pt_cmpR op_gt (pv 3) pe_int (nomark _))))) (pss_cons (ps_expr (PE.imp (pe_bm PySem.F.plainAttrs_list PySem.F.slot_list_append PySem.F.type_list_append mt_appendI (pv 2) (pa_cons (pe_op op_mod (pe_callTy call_intI (by rfl) T.z_int (by decide +kernel) (pa_cons (pv 3) pa_nil)) pe_int) pa_nil)) bml_imp))
      (pss_one (ps_set (i := 3) sc_law_draws.nd rfl (Or.inl rfl) (pe_op op_fdiv (pv 3) pe_int)))) (pss_cons (ps_set (i := 5) sc_law_draws.nd rfl (Or.inl rfl) (pe_op op_mod (pe_callTy call_intI (by rfl) T.z_int (by decide +kernel) (pa_cons (pe_op op_add (pe_op op_mul (pv 0) pe_int) (pe_op op_mul (pe_op op_add (pv 4) pe_int) pe_int)) pa_nil)) pe_int))
      (pss_cons (ps_set (i := 5) sc_law_draws.nd rfl (Or.inl rfl) (pe_op op_mod (pe_callTy call_intI (by rfl) T.z_int (by decide +kernel) (pa_cons (pe_op op_add (pe_op op_add (pe_op op_mul (pv 5) (pv 5)) (pe_op op_mul (pv 5) pe_int)) (pe_op op_mul (pv 4) pe_int)) pa_nil)) pe_int))
      (pss_cons (ps_set (i := 5) sc_law_draws.nd rfl (Or.inl rfl) (pe_op op_mod (pe_callTy call_intI (by rfl) T.z_int (by decide +kernel) (pa_cons (pe_op op_add (pe_op op_add (pe_op op_mul (pv 5) (pv 5)) (pv 0)) (pe_op op_mul pe_int (pv 4))) pa_nil)) pe_int))
      (pss_one (ps_expr (PE.imp (pe_bm PySem.F.plainAttrs_list PySem.F.slot_list_append PySem.F.type_list_append mt_appendI (pv 2) (pa_cons (pe_op op_mod (pe_op op_fdiv (pv 5) pe_int) pe_int) pa_nil)) bml_imp)))))))))
      (pss_one (ps_ret (pv 2)))))), ?_⟩
  try simp only [tSeq, tAsg, tVar, tC, tOp, rI0, rI, tUn, rU, tIfS, tTest, tRet, tRetN, tDrop, tCB, tCons, tNil, tLst, tLstI, tTup, gName, tB, tAnd, tOr, tNot, tAndV, tOrV, tNotV, tIf, tNext, tBreak, tCont, gSub, tCall, tCallN, tAug, ipI, tBML, tBML0, isL_IL, isL_lst, L2.start, List.map_cons, List.map_nil, List.length_cons, List.length_nil, List.cons_append, List.nil_append, List.getElem?_cons_succ, List.getElem?_cons_zero, Option.some.injEq, exists_eq_left', exists_eq_left, exists_and_left, V.int.injEq, V.ref.injEq, V.bl.injEq, V.str.injEq, List.set_cons_zero, List.set_cons_succ, List.cons.injEq, and_true, true_and, Nat.reduceAdd, Nat.reduceSub, List.replicate_succ, List.replicate_zero, rIxI, rIxH, rIxTH, rSetI, rSetH, rCatI, rRepI, rSlI, rAppendI, rExtendI, decide_eq_true_eq, upd_same, IL_inj, HO.lst.injEq, toInts_cons, toInts_nil, Option.map_some, if_true, if_false, Bool.true_eq_false, Bool.false_eq_true, Bool.not_true, Bool.not_false, Bool.not_eq_true', decide_eq_false_iff_not, atI_0, atI_1, atI_2, atI_3, atI_4, Int.reduceToNat, Int.reduceLT, Int.reduceLE, Int.reduceNeg, Int.reducePow, cast_lit, upd_upd, Int.reduceAdd, Int.reduceMul, Int.reduceSub, Nat.reduceLT, Nat.reduceLeDiff, cmul_r, cdiv_r, tSl, tPart, tNoPart, rEq, rNe, scal_nn, scal_ii, scal_bb, scal_ss, scal_is, scal_si, V.ty.injEq, and_assoc, tyH_non, tyH_bl, tyH_int, tyH_str, tyH_ref, tyO_lst, tyO_IL, tyO_tup, itO_lst, itO_tup, itO_IL, Dw.rIxD, rLenI, rLenH, rLenTH, rLenQ, rLenB, rListI, Dw.rListS, rIntI, rIntB, rSumI, rIsiD, rIsX, tCallS, tMakeS, tMake, tMakeC, tMakeSC, tFld, sFld, HO.ins.injEq, HO.tup.injEq, cxOf_K, nox_K, tr_K, suite_K, rTupleI, rAllB, rAnyB, BL_inj, tChain, wOnly, wAs, wMany, rEqI, rNeI, Dw.rMax2, rMin2, Dw.rIsN, rIsNotN, rStrIn, rStrNotIn, not_true_eq_false, not_false_eq_true, reduceCtorEq, cl_bool, cl_int, cl_str, cl_list, cl_tuple, isB_NoneType_bool, isB_NoneType_int, isB_NoneType_str, isB_NoneType_list, isB_NoneType_tuple, isB_bool_bool, isB_bool_int, isB_bool_str, isB_bool_list, isB_bool_tuple, isB_int_bool, isB_int_int, isB_int_str, isB_int_list, isB_int_tuple, isB_str_bool, isB_str_int, isB_str_str, isB_str_list, isB_str_tuple, isB_list_bool, isB_list_int, isB_list_str, isB_list_list, isB_list_tuple, isB_tuple_bool, isB_tuple_int, isB_tuple_str, isB_tuple_list, isB_tuple_tuple, iEnumT]
  refine ⟨line_le (by decide), fun r hr0 => ?_⟩
  obtain ⟨I, hI⟩ : ∃ F : Nat → L2.St → Hp → Prop, F = (fun i σ H' => Same H H' ∧ ∃ ns left y z, H' r = some (IL ns) ∧ ns.length = i ∧ D12 ns ∧ σ = [some (.int c), some (.int n), some (.ref r), some (.int left), y, z]) := ⟨_, rfl⟩
  refine ⟨_, rfl, n, rfl, by omega, by omega, for_range (lo := 0) (n := n.toNat) I (by rw [hI]; exact ⟨same_new hr0 _, [], c, none, none, upd_same, rfl, (fun z h => by cases h), rfl⟩) ?_ ?_⟩
  · intro i σ H' hi h
    rw [hI] at h
    obtain ⟨s1, ns, left, y, z, e1, hl, hd, rfl⟩ := h
    have fin : ∀ (v l' : Int) y', 0 ≤ v → v < 4096 → I (i + 1) [some (.int c), some (.int n), some (.ref r), some (.int l'), some (.int (0 + (i : Int))), y'] (upd H' r (IL (ns ++ [v]))) := fun v l' y' v0 v1 => by
      rw [hI]
      refine ⟨fun b o hb => ?_, ns ++ [v], l', _, _, upd_same, ?_, fun z hz => ?_, rfl⟩
      · rw [upd_ne (ne_of_none hb hr0)]
        exact s1 _ _ hb
      · rw [List.length_append, hl]
        rfl
      · rcases List.mem_append.mp hz with hz | hz
        · exact hd z hz
        · rw [List.mem_singleton.mp hz]
          exact ⟨v0, v1⟩
    have hz : ns.length < sizeLine := line_lt (by omega)
    have cm : ∀ x y : Int, 0 < y → CMul (x % 2147483647) (x % 2147483647) := fun x y _ => .inl ⟨by omega, by omega⟩
    have cm3 : CMul 13 (0 + (i : Int)) := .inl ⟨by decide, by decide⟩
    have cm2 : ∀ x : Int, CMul (x % 2147483629) (x % 2147483629) := fun x => .inl ⟨by omega, by omega⟩
    have cm1 : ∀ x : Int, CMul (x % 2147483647) (x % 2147483647) := fun x => .inl ⟨by omega, by omega⟩
    have cp : CPow 10 18 := ⟨by decide, by decide, by decide⟩
    try simp only [tSeq, tAsg, tVar, tC, tOp, rI0, rI, tUn, rU, tIfS, tTest, tRet, tRetN, tDrop, tCB, tCons, tNil, tLst, tLstI, tTup, gName, tB, tAnd, tOr, tNot, tAndV, tOrV, tNotV, tIf, tNext, tBreak, tCont, gSub, tCall, tCallN, tAug, ipI, tBML, tBML0, isL_IL, isL_lst, L2.start, List.map_cons, List.map_nil, List.length_cons, List.length_nil, List.cons_append, List.nil_append, List.getElem?_cons_succ, List.getElem?_cons_zero, Option.some.injEq, exists_eq_left', exists_eq_left, exists_and_left, V.int.injEq, V.ref.injEq, V.bl.injEq, V.str.injEq, List.set_cons_zero, List.set_cons_succ, List.cons.injEq, and_true, true_and, Nat.reduceAdd, Nat.reduceSub, List.replicate_succ, List.replicate_zero, rIxI, rIxH, rIxTH, rSetI, rSetH, rCatI, rRepI, rSlI, rAppendI, rExtendI, decide_eq_true_eq, upd_same, IL_inj, HO.lst.injEq, toInts_cons, toInts_nil, Option.map_some, if_true, if_false, Bool.true_eq_false, Bool.false_eq_true, Bool.not_true, Bool.not_false, Bool.not_eq_true', decide_eq_false_iff_not, atI_0, atI_1, atI_2, atI_3, atI_4, Int.reduceToNat, Int.reduceLT, Int.reduceLE, Int.reduceNeg, Int.reducePow, cast_lit, upd_upd, Int.reduceAdd, Int.reduceMul, Int.reduceSub, Nat.reduceLT, Nat.reduceLeDiff, cmul_r, cdiv_r, tSl, tPart, tNoPart, rEq, rNe, scal_nn, scal_ii, scal_bb, scal_ss, scal_is, scal_si, V.ty.injEq, and_assoc, tyH_non, tyH_bl, tyH_int, tyH_str, tyH_ref, tyO_lst, tyO_IL, tyO_tup, itO_lst, itO_tup, itO_IL, Dw.rIxD, rLenI, rLenH, rLenTH, rLenQ, rLenB, rListI, Dw.rListS, rIntI, rIntB, rSumI, rIsiD, rIsX, tCallS, tMakeS, tMake, tMakeC, tMakeSC, tFld, sFld, HO.ins.injEq, HO.tup.injEq, cxOf_K, nox_K, tr_K, suite_K, rTupleI, rAllB, rAnyB, BL_inj, tChain, wOnly, wAs, wMany, rEqI, rNeI, Dw.rMax2, rMin2, Dw.rIsN, rIsNotN, rStrIn, rStrNotIn, not_true_eq_false, not_false_eq_true, reduceCtorEq, cl_bool, cl_int, cl_str, cl_list, cl_tuple, isB_NoneType_bool, isB_NoneType_int, isB_NoneType_str, isB_NoneType_list, isB_NoneType_tuple, isB_bool_bool, isB_bool_int, isB_bool_str, isB_bool_list, isB_bool_tuple, isB_int_bool, isB_int_int, isB_int_str, isB_int_list, isB_int_tuple, isB_str_bool, isB_str_int, isB_str_str, isB_str_list, isB_str_tuple, isB_list_bool, isB_list_int, isB_list_str, isB_list_list, isB_list_tuple, isB_tuple_bool, isB_tuple_int, isB_tuple_str, isB_tuple_list, isB_tuple_tuple, iEnumT, e1, cp]
    by_cases c1 : (1000000000000000000 : Int) ≤ c
    · rw [if_pos c1]
      by_cases c2 : 0 < left
      · rw [if_pos c2]
        exact ⟨hz, fin _ _ _ (by omega) (by omega)⟩
      · rw [if_neg c2]
        exact ⟨cm1 _, cm2 _, cm3, hz, fin _ _ _ (by omega) (by omega)⟩
    · rw [if_neg c1]
      exact ⟨cm1 _, cm2 _, cm3, hz, fin _ _ _ (by omega) (by omega)⟩
  · intro σ H' h
    rw [hI] at h
    obtain ⟨s1, ns, left, y, z, e1, hl, hd, rfl⟩ := h
    try simp only [tSeq, tAsg, tVar, tC, tOp, rI0, rI, tUn, rU, tIfS, tTest, tRet, tRetN, tDrop, tCB, tCons, tNil, tLst, tLstI, tTup, gName, tB, tAnd, tOr, tNot, tAndV, tOrV, tNotV, tIf, tNext, tBreak, tCont, gSub, tCall, tCallN, tAug, ipI, tBML, tBML0, isL_IL, isL_lst, L2.start, List.map_cons, List.map_nil, List.length_cons, List.length_nil, List.cons_append, List.nil_append, List.getElem?_cons_succ, List.getElem?_cons_zero, Option.some.injEq, exists_eq_left', exists_eq_left, exists_and_left, V.int.injEq, V.ref.injEq, V.bl.injEq, V.str.injEq, List.set_cons_zero, List.set_cons_succ, List.cons.injEq, and_true, true_and, Nat.reduceAdd, Nat.reduceSub, List.replicate_succ, List.replicate_zero, rIxI, rIxH, rIxTH, rSetI, rSetH, rCatI, rRepI, rSlI, rAppendI, rExtendI, decide_eq_true_eq, upd_same, IL_inj, HO.lst.injEq, toInts_cons, toInts_nil, Option.map_some, if_true, if_false, Bool.true_eq_false, Bool.false_eq_true, Bool.not_true, Bool.not_false, Bool.not_eq_true', decide_eq_false_iff_not, atI_0, atI_1, atI_2, atI_3, atI_4, Int.reduceToNat, Int.reduceLT, Int.reduceLE, Int.reduceNeg, Int.reducePow, cast_lit, upd_upd, Int.reduceAdd, Int.reduceMul, Int.reduceSub, Nat.reduceLT, Nat.reduceLeDiff, cmul_r, cdiv_r, tSl, tPart, tNoPart, rEq, rNe, scal_nn, scal_ii, scal_bb, scal_ss, scal_is, scal_si, V.ty.injEq, and_assoc, tyH_non, tyH_bl, tyH_int, tyH_str, tyH_ref, tyO_lst, tyO_IL, tyO_tup, itO_lst, itO_tup, itO_IL, Dw.rIxD, rLenI, rLenH, rLenTH, rLenQ, rLenB, rListI, Dw.rListS, rIntI, rIntB, rSumI, rIsiD, rIsX, tCallS, tMakeS, tMake, tMakeC, tMakeSC, tFld, sFld, HO.ins.injEq, HO.tup.injEq, cxOf_K, nox_K, tr_K, suite_K, rTupleI, rAllB, rAnyB, BL_inj, tChain, wOnly, wAs, wMany, rEqI, rNeI, Dw.rMax2, rMin2, Dw.rIsN, rIsNotN, rStrIn, rStrNotIn, not_true_eq_false, not_false_eq_true, reduceCtorEq, cl_bool, cl_int, cl_str, cl_list, cl_tuple, isB_NoneType_bool, isB_NoneType_int, isB_NoneType_str, isB_NoneType_list, isB_NoneType_tuple, isB_bool_bool, isB_bool_int, isB_bool_str, isB_bool_list, isB_bool_tuple, isB_int_bool, isB_int_int, isB_int_str, isB_int_list, isB_int_tuple, isB_str_bool, isB_str_int, isB_str_str, isB_str_list, isB_str_tuple, isB_list_bool, isB_list_int, isB_list_str, isB_list_list, isB_list_tuple, isB_tuple_bool, isB_tuple_int, isB_tuple_str, isB_tuple_list, isB_tuple_tuple, iEnumT]
    exact k r ns H' s1 hr0 e1 (by omega) hd
end
section
variable {P : Program} {w : World} {K : PySem.W.Frag} {mg : Str → Option Value} {base : Heap} {A : Ad}
theorem ok_law_is_int (T : Tx K mg A) : FnOk P w K mg base CX0 1 A.f_law_is_int A.d_law_is_int ["x"] spIsInt := by
  refine T.F_law_is_int.ok sc_law_is_int (fun vs H Q E h => ?_) (fun cdv A' outer s H vs Q E hr h => ?_)
  · obtain ⟨i, rfl, _⟩ := h
    rfl
  obtain ⟨i, rfl, k⟩ := h
  refine ⟨_, (pss_one (ps_ret (pe_and (pe_callB call_isiD (by rfl) T.z_isinstance (by decide +kernel) (pa_cons (pv 0) (pa_cons (pe_bltn (by rfl) T.z_int (v := .ty "int") (by decide +kernel) rfl) pa_nil))) (pe_one (pe_not (pe_callB call_isiD (by rfl) T.z_isinstance (by decide +kernel) (pa_cons (pv 0) (pa_cons (pe_bltn (by rfl) T.z_bool (v := .ty "bool") (by decide +kernel) rfl) pa_nil)))))))), ?_⟩
  try simp only [tSeq, tAsg, tVar, tC, tOp, rI0, rI, tUn, rU, tIfS, tTest, tRet, tRetN, tDrop, tCB, tCons, tNil, tLst, tLstI, tTup, gName, tB, tAnd, tOr, tNot, tAndV, tOrV, tNotV, tIf, tNext, tBreak, tCont, gSub, tCall, tCallN, tAug, ipI, tBML, tBML0, isL_IL, isL_lst, L2.start, List.map_cons, List.map_nil, List.length_cons, List.length_nil, List.cons_append, List.nil_append, List.getElem?_cons_succ, List.getElem?_cons_zero, Option.some.injEq, exists_eq_left', exists_eq_left, exists_and_left, V.int.injEq, V.ref.injEq, V.bl.injEq, V.str.injEq, List.set_cons_zero, List.set_cons_succ, List.cons.injEq, and_true, true_and, Nat.reduceAdd, Nat.reduceSub, List.replicate_succ, List.replicate_zero, rIxI, rIxH, rIxTH, rSetI, rSetH, rCatI, rRepI, rSlI, rAppendI, rExtendI, decide_eq_true_eq, upd_same, IL_inj, HO.lst.injEq, toInts_cons, toInts_nil, Option.map_some, if_true, if_false, Bool.true_eq_false, Bool.false_eq_true, Bool.not_true, Bool.not_false, Bool.not_eq_true', decide_eq_false_iff_not, atI_0, atI_1, atI_2, atI_3, atI_4, Int.reduceToNat, Int.reduceLT, Int.reduceLE, Int.reduceNeg, Int.reducePow, cast_lit, upd_upd, Int.reduceAdd, Int.reduceMul, Int.reduceSub, Nat.reduceLT, Nat.reduceLeDiff, cmul_r, cdiv_r, tSl, tPart, tNoPart, rEq, rNe, scal_nn, scal_ii, scal_bb, scal_ss, scal_is, scal_si, V.ty.injEq, and_assoc, tyH_non, tyH_bl, tyH_int, tyH_str, tyH_ref, tyO_lst, tyO_IL, tyO_tup, itO_lst, itO_tup, itO_IL, Dw.rIxD, rLenI, rLenH, rLenTH, rLenQ, rLenB, rListI, Dw.rListS, rIntI, rIntB, rSumI, rIsiD, rIsX, tCallS, tMakeS, tMake, tMakeC, tMakeSC, tFld, sFld, HO.ins.injEq, HO.tup.injEq, cxOf_K, nox_K, tr_K, suite_K, rTupleI, rAllB, rAnyB, BL_inj, tChain, wOnly, wAs, wMany, rEqI, rNeI, Dw.rMax2, rMin2, Dw.rIsN, rIsNotN, rStrIn, rStrNotIn, not_true_eq_false, not_false_eq_true, reduceCtorEq, cl_bool, cl_int, cl_str, cl_list, cl_tuple, isB_NoneType_bool, isB_NoneType_int, isB_NoneType_str, isB_NoneType_list, isB_NoneType_tuple, isB_bool_bool, isB_bool_int, isB_bool_str, isB_bool_list, isB_bool_tuple, isB_int_bool, isB_int_int, isB_int_str, isB_int_list, isB_int_tuple, isB_str_bool, isB_str_int, isB_str_str, isB_str_list, isB_str_tuple, isB_list_bool, isB_list_int, isB_list_str, isB_list_list, isB_list_tuple, isB_tuple_bool, isB_tuple_int, isB_tuple_str, isB_tuple_list, isB_tuple_tuple, iEnumT]
  exact k
theorem ok_law_ints (T : Tx K mg A) : FnOk P w K mg base CX0 2 A.f_law_ints A.d_law_ints ["x", "kind"] spInts := by
  refine T.F_law_ints.ok sc_law_ints (fun vs H Q E h => ?_) (fun cdv A' outer s H vs Q E hr h => ?_)
  · obtain ⟨p, ns, ⟨rfl, _⟩ | ⟨rfl, _⟩, _⟩ := h <;> rfl
  refine ⟨_, (pss_cons (ps_if (pt_cmpR op_eq (pv 1) pe_str (nomark _)) (pss_one (ps_if (pt_not (pt_val (pe_callB call_isiD (by rfl) T.z_isinstance (by decide +kernel) (pa_cons (pv 0) (pa_cons (pe_bltn (by rfl) T.z_list (v := .ty "list") (by decide +kernel) rfl) pa_nil))))) (pss_one (ps_ret pe_bl)) pss_nil)) (pss_one (ps_if (pt_not (pt_val (pe_callB call_isiD (by rfl) T.z_isinstance (by decide +kernel) (pa_cons (pv 0) (pa_cons (pe_bltn (by rfl) T.z_tuple (v := .ty "tuple") (by decide +kernel) rfl) pa_nil))))) (pss_one (ps_ret pe_bl)) pss_nil)))
      (pss_cons (ps_for PassesOwn.never rfl (pi_range1 rfl T.z_range (pa_cons (pe_callB call_lenB (by rfl) T.z_len (by decide +kernel) (pa_cons (pv 0) pa_nil)) pa_nil)) (pg_name (i := 2) sc_law_ints.nd rfl (Or.inl rfl))
        (pss_one (ps_if (pt_not (pt_val (pe_call (ok_law_is_int T) (hr.mono (by decide)) rfl T.g_law_is_int T.F_law_is_int.kp T.b_law_is_int .nil pass0 (pa_cons (pe_ix ix_seqD (pv 0) (pv 2) (fun _ _ => rfl)) pa_nil)))) (pss_one (ps_ret pe_bl)) pss_nil)))
      (pss_one (ps_ret pe_bl)))), ?_⟩
  obtain ⟨p, ns, h, k⟩ := h
  obtain ⟨kd, hv, hi, hc⟩ : ∃ kd : Str, vs = [.ref p, .str kd] ∧ itO (H p) = some (ns.map V.int) ∧ ((kd = "list" ∧ tyH H (.ref p) = some "list") ∨ (kd = "tuple" ∧ tyH H (.ref p) = some "tuple")) := by
    rcases h with ⟨e, h⟩ | ⟨e, h⟩
    · exact ⟨_, e, by rw [h]; rfl, .inl ⟨rfl, by rw [tyH_ref, h]; rfl⟩⟩
    · exact ⟨_, e, by rw [h]; rfl, .inr ⟨rfl, by rw [tyH_ref, h]; rfl⟩⟩
  subst hv
  have ne : ¬ ("tuple" : Str) = "list" := by decide +kernel
  obtain ⟨I, hI⟩ : ∃ F : Nat → L2.St → Hp → Prop, F = (fun i σ H' => H' = H ∧ ∃ y, σ = [some (.ref p), some (.str kd), y]) := ⟨_, rfl⟩
  have go : tFor (iRng1 (tCons (tCB rLenB (tCons (tVar 0) tNil)) tNil)) (gName 2) (tIfS (tNot (tB (tCall spIsInt [] E0 (tCons (tOp rIxD (tVar 0) (tVar 2)) tNil)))) (tRet (tC (.bl false))) tNext) { nx := tRet (tC (.bl true)) { nx := fun x H' => Q V.non H', rt := Q }, rt := Q } [some (.ref p), some (.str kd), none] H := by
    refine ⟨_, rfl, p, _, rfl, hi, fun hz => ⟨_, rfl, by omega, by omega, for_range (lo := 0) (n := (((ns.map V.int).length : Nat) : Int).toNat) I (by rw [hI]; exact ⟨rfl, none, rfl⟩) ?_ ?_⟩⟩
    · intro i σ H' hi' h
      rw [hI] at h
      obtain ⟨rfl, y, rfl⟩ := h
      rw [List.length_map] at hi'
      have g : (ns.map V.int)[i]? = some (.int (ns.getD i 0)) := by
        rw [List.getElem?_map, List.getD_eq_getElem?_getD, List.getElem?_eq_getElem (by omega)]
        rfl
      have e0 : (0 : Int) + (i : Int) = ((i : Nat) : Int) := by omega
      rw [e0]
      try simp only [tSeq, tAsg, tVar, tC, tOp, rI0, rI, tUn, rU, tIfS, tTest, tRet, tRetN, tDrop, tCB, tCons, tNil, tLst, tLstI, tTup, gName, tB, tAnd, tOr, tNot, tAndV, tOrV, tNotV, tIf, tNext, tBreak, tCont, gSub, tCall, tCallN, tAug, ipI, tBML, tBML0, isL_IL, isL_lst, L2.start, List.map_cons, List.map_nil, List.length_cons, List.length_nil, List.cons_append, List.nil_append, List.getElem?_cons_succ, List.getElem?_cons_zero, Option.some.injEq, exists_eq_left', exists_eq_left, exists_and_left, V.int.injEq, V.ref.injEq, V.bl.injEq, V.str.injEq, List.set_cons_zero, List.set_cons_succ, List.cons.injEq, and_true, true_and, Nat.reduceAdd, Nat.reduceSub, List.replicate_succ, List.replicate_zero, rIxI, rIxH, rIxTH, rSetI, rSetH, rCatI, rRepI, rSlI, rAppendI, rExtendI, decide_eq_true_eq, upd_same, IL_inj, HO.lst.injEq, toInts_cons, toInts_nil, Option.map_some, if_true, if_false, Bool.true_eq_false, Bool.false_eq_true, Bool.not_true, Bool.not_false, Bool.not_eq_true', decide_eq_false_iff_not, atI_0, atI_1, atI_2, atI_3, atI_4, Int.reduceToNat, Int.reduceLT, Int.reduceLE, Int.reduceNeg, Int.reducePow, cast_lit, upd_upd, Int.reduceAdd, Int.reduceMul, Int.reduceSub, Nat.reduceLT, Nat.reduceLeDiff, cmul_r, cdiv_r, tSl, tPart, tNoPart, rEq, rNe, scal_nn, scal_ii, scal_bb, scal_ss, scal_is, scal_si, V.ty.injEq, and_assoc, tyH_non, tyH_bl, tyH_int, tyH_str, tyH_ref, tyO_lst, tyO_IL, tyO_tup, itO_lst, itO_tup, itO_IL, Dw.rIxD, rLenI, rLenH, rLenTH, rLenQ, rLenB, rListI, Dw.rListS, rIntI, rIntB, rSumI, rIsiD, rIsX, tCallS, tMakeS, tMake, tMakeC, tMakeSC, tFld, sFld, HO.ins.injEq, HO.tup.injEq, cxOf_K, nox_K, tr_K, suite_K, rTupleI, rAllB, rAnyB, BL_inj, tChain, wOnly, wAs, wMany, rEqI, rNeI, Dw.rMax2, rMin2, Dw.rIsN, rIsNotN, rStrIn, rStrNotIn, not_true_eq_false, not_false_eq_true, reduceCtorEq, cl_bool, cl_int, cl_str, cl_list, cl_tuple, isB_NoneType_bool, isB_NoneType_int, isB_NoneType_str, isB_NoneType_list, isB_NoneType_tuple, isB_bool_bool, isB_bool_int, isB_bool_str, isB_bool_list, isB_bool_tuple, isB_int_bool, isB_int_int, isB_int_str, isB_int_list, isB_int_tuple, isB_str_bool, isB_str_int, isB_str_str, isB_str_list, isB_str_tuple, isB_list_bool, isB_list_int, isB_list_str, isB_list_list, isB_list_tuple, isB_tuple_bool, isB_tuple_int, isB_tuple_str, isB_tuple_list, isB_tuple_tuple, iEnumT, hi, atI_k, g, spIsInt]
      rw [hI]
      exact ⟨rfl, _, rfl⟩
    · intro σ H' h
      rw [hI] at h
      obtain ⟨rfl, y, rfl⟩ := h
      try simp only [tSeq, tAsg, tVar, tC, tOp, rI0, rI, tUn, rU, tIfS, tTest, tRet, tRetN, tDrop, tCB, tCons, tNil, tLst, tLstI, tTup, gName, tB, tAnd, tOr, tNot, tAndV, tOrV, tNotV, tIf, tNext, tBreak, tCont, gSub, tCall, tCallN, tAug, ipI, tBML, tBML0, isL_IL, isL_lst, L2.start, List.map_cons, List.map_nil, List.length_cons, List.length_nil, List.cons_append, List.nil_append, List.getElem?_cons_succ, List.getElem?_cons_zero, Option.some.injEq, exists_eq_left', exists_eq_left, exists_and_left, V.int.injEq, V.ref.injEq, V.bl.injEq, V.str.injEq, List.set_cons_zero, List.set_cons_succ, List.cons.injEq, and_true, true_and, Nat.reduceAdd, Nat.reduceSub, List.replicate_succ, List.replicate_zero, rIxI, rIxH, rIxTH, rSetI, rSetH, rCatI, rRepI, rSlI, rAppendI, rExtendI, decide_eq_true_eq, upd_same, IL_inj, HO.lst.injEq, toInts_cons, toInts_nil, Option.map_some, if_true, if_false, Bool.true_eq_false, Bool.false_eq_true, Bool.not_true, Bool.not_false, Bool.not_eq_true', decide_eq_false_iff_not, atI_0, atI_1, atI_2, atI_3, atI_4, Int.reduceToNat, Int.reduceLT, Int.reduceLE, Int.reduceNeg, Int.reducePow, cast_lit, upd_upd, Int.reduceAdd, Int.reduceMul, Int.reduceSub, Nat.reduceLT, Nat.reduceLeDiff, cmul_r, cdiv_r, tSl, tPart, tNoPart, rEq, rNe, scal_nn, scal_ii, scal_bb, scal_ss, scal_is, scal_si, V.ty.injEq, and_assoc, tyH_non, tyH_bl, tyH_int, tyH_str, tyH_ref, tyO_lst, tyO_IL, tyO_tup, itO_lst, itO_tup, itO_IL, Dw.rIxD, rLenI, rLenH, rLenTH, rLenQ, rLenB, rListI, Dw.rListS, rIntI, rIntB, rSumI, rIsiD, rIsX, tCallS, tMakeS, tMake, tMakeC, tMakeSC, tFld, sFld, HO.ins.injEq, HO.tup.injEq, cxOf_K, nox_K, tr_K, suite_K, rTupleI, rAllB, rAnyB, BL_inj, tChain, wOnly, wAs, wMany, rEqI, rNeI, Dw.rMax2, rMin2, Dw.rIsN, rIsNotN, rStrIn, rStrNotIn, not_true_eq_false, not_false_eq_true, reduceCtorEq, cl_bool, cl_int, cl_str, cl_list, cl_tuple, isB_NoneType_bool, isB_NoneType_int, isB_NoneType_str, isB_NoneType_list, isB_NoneType_tuple, isB_bool_bool, isB_bool_int, isB_bool_str, isB_bool_list, isB_bool_tuple, isB_int_bool, isB_int_int, isB_int_str, isB_int_list, isB_int_tuple, isB_str_bool, isB_str_int, isB_str_str, isB_str_list, isB_str_tuple, isB_list_bool, isB_list_int, isB_list_str, isB_list_list, isB_list_tuple, isB_tuple_bool, isB_tuple_int, isB_tuple_str, isB_tuple_list, isB_tuple_tuple, iEnumT]
      exact k
  rcases hc with ⟨rfl, ht⟩ | ⟨rfl, ht⟩
  · rw [tyH_ref] at ht
    try simp only [tSeq, tAsg, tVar, tC, tOp, rI0, rI, tUn, rU, tIfS, tTest, tRet, tRetN, tDrop, tCB, tCons, tNil, tLst, tLstI, tTup, gName, tB, tAnd, tOr, tNot, tAndV, tOrV, tNotV, tIf, tNext, tBreak, tCont, gSub, tCall, tCallN, tAug, ipI, tBML, tBML0, isL_IL, isL_lst, L2.start, List.map_cons, List.map_nil, List.length_cons, List.length_nil, List.cons_append, List.nil_append, List.getElem?_cons_succ, List.getElem?_cons_zero, Option.some.injEq, exists_eq_left', exists_eq_left, exists_and_left, V.int.injEq, V.ref.injEq, V.bl.injEq, V.str.injEq, List.set_cons_zero, List.set_cons_succ, List.cons.injEq, and_true, true_and, Nat.reduceAdd, Nat.reduceSub, List.replicate_succ, List.replicate_zero, rIxI, rIxH, rIxTH, rSetI, rSetH, rCatI, rRepI, rSlI, rAppendI, rExtendI, decide_eq_true_eq, upd_same, IL_inj, HO.lst.injEq, toInts_cons, toInts_nil, Option.map_some, if_true, if_false, Bool.true_eq_false, Bool.false_eq_true, Bool.not_true, Bool.not_false, Bool.not_eq_true', decide_eq_false_iff_not, atI_0, atI_1, atI_2, atI_3, atI_4, Int.reduceToNat, Int.reduceLT, Int.reduceLE, Int.reduceNeg, Int.reducePow, cast_lit, upd_upd, Int.reduceAdd, Int.reduceMul, Int.reduceSub, Nat.reduceLT, Nat.reduceLeDiff, cmul_r, cdiv_r, tSl, tPart, tNoPart, rEq, rNe, scal_nn, scal_ii, scal_bb, scal_ss, scal_is, scal_si, V.ty.injEq, and_assoc, tyH_non, tyH_bl, tyH_int, tyH_str, tyH_ref, tyO_lst, tyO_IL, tyO_tup, itO_lst, itO_tup, itO_IL, Dw.rIxD, rLenI, rLenH, rLenTH, rLenQ, rLenB, rListI, Dw.rListS, rIntI, rIntB, rSumI, rIsiD, rIsX, tCallS, tMakeS, tMake, tMakeC, tMakeSC, tFld, sFld, HO.ins.injEq, HO.tup.injEq, cxOf_K, nox_K, tr_K, suite_K, rTupleI, rAllB, rAnyB, BL_inj, tChain, wOnly, wAs, wMany, rEqI, rNeI, Dw.rMax2, rMin2, Dw.rIsN, rIsNotN, rStrIn, rStrNotIn, not_true_eq_false, not_false_eq_true, reduceCtorEq, cl_bool, cl_int, cl_str, cl_list, cl_tuple, isB_NoneType_bool, isB_NoneType_int, isB_NoneType_str, isB_NoneType_list, isB_NoneType_tuple, isB_bool_bool, isB_bool_int, isB_bool_str, isB_bool_list, isB_bool_tuple, isB_int_bool, isB_int_int, isB_int_str, isB_int_list, isB_int_tuple, isB_str_bool, isB_str_int, isB_str_str, isB_str_list, isB_str_tuple, isB_list_bool, isB_list_int, isB_list_str, isB_list_list, isB_list_tuple, isB_tuple_bool, isB_tuple_int, isB_tuple_str, isB_tuple_list, isB_tuple_tuple, iEnumT, ht, decide_true]
    exact go
  · rw [tyH_ref] at ht
    try simp only [tSeq, tAsg, tVar, tC, tOp, rI0, rI, tUn, rU, tIfS, tTest, tRet, tRetN, tDrop, tCB, tCons, tNil, tLst, tLstI, tTup, gName, tB, tAnd, tOr, tNot, tAndV, tOrV, tNotV, tIf, tNext, tBreak, tCont, gSub, tCall, tCallN, tAug, ipI, tBML, tBML0, isL_IL, isL_lst, L2.start, List.map_cons, List.map_nil, List.length_cons, List.length_nil, List.cons_append, List.nil_append, List.getElem?_cons_succ, List.getElem?_cons_zero, Option.some.injEq, exists_eq_left', exists_eq_left, exists_and_left, V.int.injEq, V.ref.injEq, V.bl.injEq, V.str.injEq, List.set_cons_zero, List.set_cons_succ, List.cons.injEq, and_true, true_and, Nat.reduceAdd, Nat.reduceSub, List.replicate_succ, List.replicate_zero, rIxI, rIxH, rIxTH, rSetI, rSetH, rCatI, rRepI, rSlI, rAppendI, rExtendI, decide_eq_true_eq, upd_same, IL_inj, HO.lst.injEq, toInts_cons, toInts_nil, Option.map_some, if_true, if_false, Bool.true_eq_false, Bool.false_eq_true, Bool.not_true, Bool.not_false, Bool.not_eq_true', decide_eq_false_iff_not, atI_0, atI_1, atI_2, atI_3, atI_4, Int.reduceToNat, Int.reduceLT, Int.reduceLE, Int.reduceNeg, Int.reducePow, cast_lit, upd_upd, Int.reduceAdd, Int.reduceMul, Int.reduceSub, Nat.reduceLT, Nat.reduceLeDiff, cmul_r, cdiv_r, tSl, tPart, tNoPart, rEq, rNe, scal_nn, scal_ii, scal_bb, scal_ss, scal_is, scal_si, V.ty.injEq, and_assoc, tyH_non, tyH_bl, tyH_int, tyH_str, tyH_ref, tyO_lst, tyO_IL, tyO_tup, itO_lst, itO_tup, itO_IL, Dw.rIxD, rLenI, rLenH, rLenTH, rLenQ, rLenB, rListI, Dw.rListS, rIntI, rIntB, rSumI, rIsiD, rIsX, tCallS, tMakeS, tMake, tMakeC, tMakeSC, tFld, sFld, HO.ins.injEq, HO.tup.injEq, cxOf_K, nox_K, tr_K, suite_K, rTupleI, rAllB, rAnyB, BL_inj, tChain, wOnly, wAs, wMany, rEqI, rNeI, Dw.rMax2, rMin2, Dw.rIsN, rIsNotN, rStrIn, rStrNotIn, not_true_eq_false, not_false_eq_true, reduceCtorEq, cl_bool, cl_int, cl_str, cl_list, cl_tuple, isB_NoneType_bool, isB_NoneType_int, isB_NoneType_str, isB_NoneType_list, isB_NoneType_tuple, isB_bool_bool, isB_bool_int, isB_bool_str, isB_bool_list, isB_bool_tuple, isB_int_bool, isB_int_int, isB_int_str, isB_int_list, isB_int_tuple, isB_str_bool, isB_str_int, isB_str_str, isB_str_list, isB_str_tuple, isB_list_bool, isB_list_int, isB_list_str, isB_list_list, isB_list_tuple, isB_tuple_bool, isB_tuple_int, isB_tuple_str, isB_tuple_list, isB_tuple_tuple, iEnumT, ht, ne]
    exact go
end
section
variable {P : Program} {w : World} {K : PySem.W.Frag} {mg : Str → Option Value} {base : Heap} {A : Ad}
theorem ok_law_is_list (T : Tx K mg A) : FnOk P w K mg base CX0 3 A.f_law_is_list A.d_law_is_list ["x", "due"] spIsList := by
  refine T.F_law_is_list.ok sc_law_is_list (fun vs H Q E h => ?_) (fun cdv A' outer s H vs Q E hr h => ?_)
  · obtain ⟨p, u, ns, rfl, _⟩ := h
    rfl
  obtain ⟨p, u, ns, rfl, h1, h2, k⟩ := h
  refine ⟨_, (pss_one (ps_ret (pe_and (pe_call (ok_law_ints T) (hr.mono (by decide)) rfl T.g_law_ints T.F_law_ints.kp T.b_law_ints .nil pass0 (pa_cons (pv 0) (pa_cons pe_str pa_nil))) (pe_one (pe_cmpR (op_eqI hr.units) (pv 0) (pv 1) (nomark _)))))), ?_⟩
  refine ⟨_, rfl, p, ns, .inl ⟨rfl, h1⟩, true, rfl, ?_⟩
  try simp only [tSeq, tAsg, tVar, tC, tOp, rI0, rI, tUn, rU, tIfS, tTest, tRet, tRetN, tDrop, tCB, tCons, tNil, tLst, tLstI, tTup, gName, tB, tAnd, tOr, tNot, tAndV, tOrV, tNotV, tIf, tNext, tBreak, tCont, gSub, tCall, tCallN, tAug, ipI, tBML, tBML0, isL_IL, isL_lst, L2.start, List.map_cons, List.map_nil, List.length_cons, List.length_nil, List.cons_append, List.nil_append, List.getElem?_cons_succ, List.getElem?_cons_zero, Option.some.injEq, exists_eq_left', exists_eq_left, exists_and_left, V.int.injEq, V.ref.injEq, V.bl.injEq, V.str.injEq, List.set_cons_zero, List.set_cons_succ, List.cons.injEq, and_true, true_and, Nat.reduceAdd, Nat.reduceSub, List.replicate_succ, List.replicate_zero, rIxI, rIxH, rIxTH, rSetI, rSetH, rCatI, rRepI, rSlI, rAppendI, rExtendI, decide_eq_true_eq, upd_same, IL_inj, HO.lst.injEq, toInts_cons, toInts_nil, Option.map_some, if_true, if_false, Bool.true_eq_false, Bool.false_eq_true, Bool.not_true, Bool.not_false, Bool.not_eq_true', decide_eq_false_iff_not, atI_0, atI_1, atI_2, atI_3, atI_4, Int.reduceToNat, Int.reduceLT, Int.reduceLE, Int.reduceNeg, Int.reducePow, cast_lit, upd_upd, Int.reduceAdd, Int.reduceMul, Int.reduceSub, Nat.reduceLT, Nat.reduceLeDiff, cmul_r, cdiv_r, tSl, tPart, tNoPart, rEq, rNe, scal_nn, scal_ii, scal_bb, scal_ss, scal_is, scal_si, V.ty.injEq, and_assoc, tyH_non, tyH_bl, tyH_int, tyH_str, tyH_ref, tyO_lst, tyO_IL, tyO_tup, itO_lst, itO_tup, itO_IL, Dw.rIxD, rLenI, rLenH, rLenTH, rLenQ, rLenB, rListI, Dw.rListS, rIntI, rIntB, rSumI, rIsiD, rIsX, tCallS, tMakeS, tMake, tMakeC, tMakeSC, tFld, sFld, HO.ins.injEq, HO.tup.injEq, cxOf_K, nox_K, tr_K, suite_K, rTupleI, rAllB, rAnyB, BL_inj, tChain, wOnly, wAs, wMany, rEqI, rNeI, Dw.rMax2, rMin2, Dw.rIsN, rIsNotN, rStrIn, rStrNotIn, not_true_eq_false, not_false_eq_true, reduceCtorEq, cl_bool, cl_int, cl_str, cl_list, cl_tuple, isB_NoneType_bool, isB_NoneType_int, isB_NoneType_str, isB_NoneType_list, isB_NoneType_tuple, isB_bool_bool, isB_bool_int, isB_bool_str, isB_bool_list, isB_bool_tuple, isB_int_bool, isB_int_int, isB_int_str, isB_int_list, isB_int_tuple, isB_str_bool, isB_str_int, isB_str_str, isB_str_list, isB_str_tuple, isB_list_bool, isB_list_int, isB_list_str, isB_list_list, isB_list_tuple, isB_tuple_bool, isB_tuple_int, isB_tuple_str, isB_tuple_list, isB_tuple_tuple, iEnumT, h1, h2, decide_true]
  exact k
end
section
variable {P : Program} {w : World} {K : PySem.W.Frag} {mg : Str → Option Value} {base : Heap} {A : Ad}
theorem ok_Readinit (T : Tx K mg A) : FnOk P w K mg base (L2.CX P w) 1 A.f_Readinit A.d_Readinit ["self", "intervals", "rest"] (spReadInit A.c_Read A.c_InvalidRead) := by
  refine T.F_Readinit.okX sc_Readinit (fun vs H Q E h => ?_) (fun cdv A' outer s H vs Q E hr h => ?_)
  · obtain ⟨x, dx, a, ns, rest, rfl, _⟩ := h
    rfl
  obtain ⟨x, dx, a, ns, rest, rfl, hx, hA, k1, k2⟩ := h
  refine ⟨_, (pss_cons (ps_if (pt_cmpR op_gt (pe_callB call_lenI (by rfl) T.z_len (by decide +kernel) (pa_cons (pv 1) pa_nil)) (pe_glob rfl T.c_MOST_INTERVALS T.r_MOST_INTERVALS) (nomark _)) (pss_one (ps_raise rfl (takes_of rfl rfl rfl rfl) (pmk_own PySem.F.excBase_ValueError T.x_InvalidRead.x T.x_InvalidRead.g T.x_InvalidRead.k (raises_own T.x_InvalidRead.b T.x_InvalidRead.t) rfl))) pss_nil)
      (pss_cons (ps_if (pt_not (pt_val (pe_callB (cr_allB rfl) (by rfl) T.z_all (by decide +kernel) (pa_cons (pe_lc (own := [("ticks", 3)]) (g := (gName 3)) (tt := tYes) rfl sc_Readinit.nd (pi_list (pv 1)) (blkOk_by (N := n_Readinit) (sc := (defScope s_Readinit)) (by decide +kernel)) (fun _ _ _ _ _ => (pg_name (i := 3) sc_Readinit.nd rfl (Or.inl rfl))) (fun _ _ _ _ _ => pts_nil) (fun _ _ _ _ _ => (pe_chain op_le op_le pe_int (pv 3) (pe_glob rfl T.c_MOST_TICKS T.r_MOST_TICKS)))) pa_nil)))) (pss_one (ps_raise rfl (takes_of rfl rfl rfl rfl) (pmk_own PySem.F.excBase_ValueError T.x_InvalidRead.x T.x_InvalidRead.g T.x_InvalidRead.k (raises_own T.x_InvalidRead.b T.x_InvalidRead.t) rfl))) pss_nil)
      (pss_cons (ps_if (pt_not (pt_chain op_le op_le pe_int (pv 2) (pe_glob rfl T.c_MOST_TICKS T.r_MOST_TICKS))) (pss_one (ps_raise rfl (takes_of rfl rfl rfl rfl) (pmk_own PySem.F.excBase_ValueError T.x_InvalidRead.x T.x_InvalidRead.g T.x_InvalidRead.k (raises_own T.x_InvalidRead.b T.x_InvalidRead.t) rfl))) pss_nil)
      (pss_cons (ps_fld (pv 0) (pe_callTy call_tupleI (by rfl) T.z_tuple (by decide +kernel) (pa_cons (pv 1) pa_nil)) rfl)
      (pss_one (ps_fld (pv 0) (pv 2) rfl)))))), ?_⟩
  try simp only [tSeq, tAsg, tVar, tC, tOp, rI0, rI, tUn, rU, tIfS, tTest, tRet, tRetN, tDrop, tCB, tCons, tNil, tLst, tLstI, tTup, gName, tB, tAnd, tOr, tNot, tAndV, tOrV, tNotV, tIf, tNext, tBreak, tCont, gSub, tCall, tCallN, tAug, ipI, tBML, tBML0, isL_IL, isL_lst, L2.start, List.map_cons, List.map_nil, List.length_cons, List.length_nil, List.cons_append, List.nil_append, List.getElem?_cons_succ, List.getElem?_cons_zero, Option.some.injEq, exists_eq_left', exists_eq_left, exists_and_left, V.int.injEq, V.ref.injEq, V.bl.injEq, V.str.injEq, List.set_cons_zero, List.set_cons_succ, List.cons.injEq, and_true, true_and, Nat.reduceAdd, Nat.reduceSub, List.replicate_succ, List.replicate_zero, rIxI, rIxH, rIxTH, rSetI, rSetH, rCatI, rRepI, rSlI, rAppendI, rExtendI, decide_eq_true_eq, upd_same, IL_inj, HO.lst.injEq, toInts_cons, toInts_nil, Option.map_some, if_true, if_false, Bool.true_eq_false, Bool.false_eq_true, Bool.not_true, Bool.not_false, Bool.not_eq_true', decide_eq_false_iff_not, atI_0, atI_1, atI_2, atI_3, atI_4, Int.reduceToNat, Int.reduceLT, Int.reduceLE, Int.reduceNeg, Int.reducePow, cast_lit, upd_upd, Int.reduceAdd, Int.reduceMul, Int.reduceSub, Nat.reduceLT, Nat.reduceLeDiff, cmul_r, cdiv_r, tSl, tPart, tNoPart, rEq, rNe, scal_nn, scal_ii, scal_bb, scal_ss, scal_is, scal_si, V.ty.injEq, and_assoc, tyH_non, tyH_bl, tyH_int, tyH_str, tyH_ref, tyO_lst, tyO_IL, tyO_tup, itO_lst, itO_tup, itO_IL, Dw.rIxD, rLenI, rLenH, rLenTH, rLenQ, rLenB, rListI, Dw.rListS, rIntI, rIntB, rSumI, rIsiD, rIsX, tCallS, tMakeS, tMake, tMakeC, tMakeSC, tFld, sFld, HO.ins.injEq, HO.tup.injEq, cxOf_K, nox_K, tr_K, suite_K, rTupleI, rAllB, rAnyB, BL_inj, tChain, wOnly, wAs, wMany, rEqI, rNeI, Dw.rMax2, rMin2, Dw.rIsN, rIsNotN, rStrIn, rStrNotIn, not_true_eq_false, not_false_eq_true, reduceCtorEq, cl_bool, cl_int, cl_str, cl_list, cl_tuple, isB_NoneType_bool, isB_NoneType_int, isB_NoneType_str, isB_NoneType_list, isB_NoneType_tuple, isB_bool_bool, isB_bool_int, isB_bool_str, isB_bool_list, isB_bool_tuple, isB_int_bool, isB_int_int, isB_int_str, isB_int_list, isB_int_tuple, isB_str_bool, isB_str_int, isB_str_str, isB_str_list, isB_str_tuple, isB_list_bool, isB_list_int, isB_list_str, isB_list_list, isB_list_tuple, isB_tuple_bool, isB_tuple_int, isB_tuple_str, isB_tuple_list, isB_tuple_tuple, iEnumT, hx, hA]
  by_cases c1 : (60000 : Int) < ns.length
  · rw [if_pos c1]
    exact k2 (fun o => by have := o.1; omega) _ (Same.refl _)
  rw [if_neg c1]
  refine ⟨_, rfl, a, rfl, ⟨_, .of hA⟩, fun D hD => ?_⟩
  refine lc_listV (K := K) (a := a) (xs := ns.map V.int) (f := fun i => V.bl (decide (1 ≤ ns.getD i 0) && decide (ns.getD i 0 ≤ 1000000))) (by rw [List.length_map]; omega) (.of hA) hD (fun _ => rfl) ?_ fun H1 s1 e1 => ?_
  · intro i v H3 Q' hi s1 hq
    obtain ⟨z, rfl, hz⟩ := ints_at hi
    have ez : ns.getD i 0 = z := by rw [List.getD_eq_getElem?_getD, hz]; rfl
    rw [ez] at hq
    try simp only [tSeq, tAsg, tVar, tC, tOp, rI0, rI, tUn, rU, tIfS, tTest, tRet, tRetN, tDrop, tCB, tCons, tNil, tLst, tLstI, tTup, gName, tB, tAnd, tOr, tNot, tAndV, tOrV, tNotV, tIf, tNext, tBreak, tCont, gSub, tCall, tCallN, tAug, ipI, tBML, tBML0, isL_IL, isL_lst, L2.start, List.map_cons, List.map_nil, List.length_cons, List.length_nil, List.cons_append, List.nil_append, List.getElem?_cons_succ, List.getElem?_cons_zero, Option.some.injEq, exists_eq_left', exists_eq_left, exists_and_left, V.int.injEq, V.ref.injEq, V.bl.injEq, V.str.injEq, List.set_cons_zero, List.set_cons_succ, List.cons.injEq, and_true, true_and, Nat.reduceAdd, Nat.reduceSub, List.replicate_succ, List.replicate_zero, rIxI, rIxH, rIxTH, rSetI, rSetH, rCatI, rRepI, rSlI, rAppendI, rExtendI, decide_eq_true_eq, upd_same, IL_inj, HO.lst.injEq, toInts_cons, toInts_nil, Option.map_some, if_true, if_false, Bool.true_eq_false, Bool.false_eq_true, Bool.not_true, Bool.not_false, Bool.not_eq_true', decide_eq_false_iff_not, atI_0, atI_1, atI_2, atI_3, atI_4, Int.reduceToNat, Int.reduceLT, Int.reduceLE, Int.reduceNeg, Int.reducePow, cast_lit, upd_upd, Int.reduceAdd, Int.reduceMul, Int.reduceSub, Nat.reduceLT, Nat.reduceLeDiff, cmul_r, cdiv_r, tSl, tPart, tNoPart, rEq, rNe, scal_nn, scal_ii, scal_bb, scal_ss, scal_is, scal_si, V.ty.injEq, and_assoc, tyH_non, tyH_bl, tyH_int, tyH_str, tyH_ref, tyO_lst, tyO_IL, tyO_tup, itO_lst, itO_tup, itO_IL, Dw.rIxD, rLenI, rLenH, rLenTH, rLenQ, rLenB, rListI, Dw.rListS, rIntI, rIntB, rSumI, rIsiD, rIsX, tCallS, tMakeS, tMake, tMakeC, tMakeSC, tFld, sFld, HO.ins.injEq, HO.tup.injEq, cxOf_K, nox_K, tr_K, suite_K, rTupleI, rAllB, rAnyB, BL_inj, tChain, wOnly, wAs, wMany, rEqI, rNeI, Dw.rMax2, rMin2, Dw.rIsN, rIsNotN, rStrIn, rStrNotIn, not_true_eq_false, not_false_eq_true, reduceCtorEq, cl_bool, cl_int, cl_str, cl_list, cl_tuple, isB_NoneType_bool, isB_NoneType_int, isB_NoneType_str, isB_NoneType_list, isB_NoneType_tuple, isB_bool_bool, isB_bool_int, isB_bool_str, isB_bool_list, isB_bool_tuple, isB_int_bool, isB_int_int, isB_int_str, isB_int_list, isB_int_tuple, isB_str_bool, isB_str_int, isB_str_str, isB_str_list, isB_str_tuple, isB_list_bool, isB_list_int, isB_list_str, isB_list_list, isB_list_tuple, isB_tuple_bool, isB_tuple_int, isB_tuple_str, isB_tuple_list, isB_tuple_tuple, iEnumT, wipe]
    by_cases c : 1 ≤ z
    · rw [if_pos c]
      have := hq H3 (Same.refl _)
      rw [decide_eq_true c, Bool.true_and] at this
      exact this
    · rw [if_neg c]
      have := hq H3 (Same.refl _)
      rw [decide_eq_false c, Bool.false_and] at this
      exact this
  rw [List.length_map] at e1
  have e2 := BL_of e1
  have hx1 := s1 _ _ hx
  have hA1 := s1 _ _ hA
  try simp only [tSeq, tAsg, tVar, tC, tOp, rI0, rI, tUn, rU, tIfS, tTest, tRet, tRetN, tDrop, tCB, tCons, tNil, tLst, tLstI, tTup, gName, tB, tAnd, tOr, tNot, tAndV, tOrV, tNotV, tIf, tNext, tBreak, tCont, gSub, tCall, tCallN, tAug, ipI, tBML, tBML0, isL_IL, isL_lst, L2.start, List.map_cons, List.map_nil, List.length_cons, List.length_nil, List.cons_append, List.nil_append, List.getElem?_cons_succ, List.getElem?_cons_zero, Option.some.injEq, exists_eq_left', exists_eq_left, exists_and_left, V.int.injEq, V.ref.injEq, V.bl.injEq, V.str.injEq, List.set_cons_zero, List.set_cons_succ, List.cons.injEq, and_true, true_and, Nat.reduceAdd, Nat.reduceSub, List.replicate_succ, List.replicate_zero, rIxI, rIxH, rIxTH, rSetI, rSetH, rCatI, rRepI, rSlI, rAppendI, rExtendI, decide_eq_true_eq, upd_same, IL_inj, HO.lst.injEq, toInts_cons, toInts_nil, Option.map_some, if_true, if_false, Bool.true_eq_false, Bool.false_eq_true, Bool.not_true, Bool.not_false, Bool.not_eq_true', decide_eq_false_iff_not, atI_0, atI_1, atI_2, atI_3, atI_4, Int.reduceToNat, Int.reduceLT, Int.reduceLE, Int.reduceNeg, Int.reducePow, cast_lit, upd_upd, Int.reduceAdd, Int.reduceMul, Int.reduceSub, Nat.reduceLT, Nat.reduceLeDiff, cmul_r, cdiv_r, tSl, tPart, tNoPart, rEq, rNe, scal_nn, scal_ii, scal_bb, scal_ss, scal_is, scal_si, V.ty.injEq, and_assoc, tyH_non, tyH_bl, tyH_int, tyH_str, tyH_ref, tyO_lst, tyO_IL, tyO_tup, itO_lst, itO_tup, itO_IL, Dw.rIxD, rLenI, rLenH, rLenTH, rLenQ, rLenB, rListI, Dw.rListS, rIntI, rIntB, rSumI, rIsiD, rIsX, tCallS, tMakeS, tMake, tMakeC, tMakeSC, tFld, sFld, HO.ins.injEq, HO.tup.injEq, cxOf_K, nox_K, tr_K, suite_K, rTupleI, rAllB, rAnyB, BL_inj, tChain, wOnly, wAs, wMany, rEqI, rNeI, Dw.rMax2, rMin2, Dw.rIsN, rIsNotN, rStrIn, rStrNotIn, not_true_eq_false, not_false_eq_true, reduceCtorEq, cl_bool, cl_int, cl_str, cl_list, cl_tuple, isB_NoneType_bool, isB_NoneType_int, isB_NoneType_str, isB_NoneType_list, isB_NoneType_tuple, isB_bool_bool, isB_bool_int, isB_bool_str, isB_bool_list, isB_bool_tuple, isB_int_bool, isB_int_int, isB_int_str, isB_int_list, isB_int_tuple, isB_str_bool, isB_str_int, isB_str_str, isB_str_list, isB_str_tuple, isB_list_bool, isB_list_int, isB_list_str, isB_list_list, isB_list_tuple, isB_tuple_bool, isB_tuple_int, isB_tuple_str, isB_tuple_list, isB_tuple_tuple, iEnumT, e2, all_items (p := fun z => decide (1 ≤ z) && decide (z ≤ 1000000))]
  by_cases c2 : (ns.all fun z => decide (1 ≤ z) && decide (z ≤ 1000000)) = false
  · rw [if_pos c2]
    refine k2 (fun o => ?_) _ s1
    have : (ns.all fun z => decide (1 ≤ z) && decide (z ≤ 1000000)) = true := by
      rw [List.all_eq_true]
      intro z hz
      have := o.2.1 z hz
      rw [decide_eq_true this.1, decide_eq_true this.2]
      rfl
    rw [this] at c2
    cases c2
  rw [if_neg c2]
  have ok2 : ∀ t ∈ ns, 1 ≤ t ∧ t ≤ 1000000 := by
    have c3 : (ns.all fun z => decide (1 ≤ z) && decide (z ≤ 1000000)) = true := by
      cases h : (ns.all fun z => decide (1 ≤ z) && decide (z ≤ 1000000)) with
      | true => rfl
      | false => exact absurd h c2
    rw [List.all_eq_true] at c3
    intro t ht
    have := c3 t ht
    rw [Bool.and_eq_true] at this
    exact ⟨of_decide_eq_true this.1, of_decide_eq_true this.2⟩
  by_cases c3 : 0 ≤ rest
  · rw [if_pos c3]
    by_cases c4 : rest ≤ 1000000
    · try simp only [tSeq, tAsg, tVar, tC, tOp, rI0, rI, tUn, rU, tIfS, tTest, tRet, tRetN, tDrop, tCB, tCons, tNil, tLst, tLstI, tTup, gName, tB, tAnd, tOr, tNot, tAndV, tOrV, tNotV, tIf, tNext, tBreak, tCont, gSub, tCall, tCallN, tAug, ipI, tBML, tBML0, isL_IL, isL_lst, L2.start, List.map_cons, List.map_nil, List.length_cons, List.length_nil, List.cons_append, List.nil_append, List.getElem?_cons_succ, List.getElem?_cons_zero, Option.some.injEq, exists_eq_left', exists_eq_left, exists_and_left, V.int.injEq, V.ref.injEq, V.bl.injEq, V.str.injEq, List.set_cons_zero, List.set_cons_succ, List.cons.injEq, and_true, true_and, Nat.reduceAdd, Nat.reduceSub, List.replicate_succ, List.replicate_zero, rIxI, rIxH, rIxTH, rSetI, rSetH, rCatI, rRepI, rSlI, rAppendI, rExtendI, decide_eq_true_eq, upd_same, IL_inj, HO.lst.injEq, toInts_cons, toInts_nil, Option.map_some, if_true, if_false, Bool.true_eq_false, Bool.false_eq_true, Bool.not_true, Bool.not_false, Bool.not_eq_true', decide_eq_false_iff_not, atI_0, atI_1, atI_2, atI_3, atI_4, Int.reduceToNat, Int.reduceLT, Int.reduceLE, Int.reduceNeg, Int.reducePow, cast_lit, upd_upd, Int.reduceAdd, Int.reduceMul, Int.reduceSub, Nat.reduceLT, Nat.reduceLeDiff, cmul_r, cdiv_r, tSl, tPart, tNoPart, rEq, rNe, scal_nn, scal_ii, scal_bb, scal_ss, scal_is, scal_si, V.ty.injEq, and_assoc, tyH_non, tyH_bl, tyH_int, tyH_str, tyH_ref, tyO_lst, tyO_IL, tyO_tup, itO_lst, itO_tup, itO_IL, Dw.rIxD, rLenI, rLenH, rLenTH, rLenQ, rLenB, rListI, Dw.rListS, rIntI, rIntB, rSumI, rIsiD, rIsX, tCallS, tMakeS, tMake, tMakeC, tMakeSC, tFld, sFld, HO.ins.injEq, HO.tup.injEq, cxOf_K, nox_K, tr_K, suite_K, rTupleI, rAllB, rAnyB, BL_inj, tChain, wOnly, wAs, wMany, rEqI, rNeI, Dw.rMax2, rMin2, Dw.rIsN, rIsNotN, rStrIn, rStrNotIn, not_true_eq_false, not_false_eq_true, reduceCtorEq, cl_bool, cl_int, cl_str, cl_list, cl_tuple, isB_NoneType_bool, isB_NoneType_int, isB_NoneType_str, isB_NoneType_list, isB_NoneType_tuple, isB_bool_bool, isB_bool_int, isB_bool_str, isB_bool_list, isB_bool_tuple, isB_int_bool, isB_int_int, isB_int_str, isB_int_list, isB_int_tuple, isB_str_bool, isB_str_int, isB_str_str, isB_str_list, isB_str_tuple, isB_list_bool, isB_list_int, isB_list_str, isB_list_list, isB_list_tuple, isB_tuple_bool, isB_tuple_int, isB_tuple_str, isB_tuple_list, isB_tuple_tuple, iEnumT, c4, hA1]
      intro l hl
      have hxl : x ≠ l := ne_of_none hx1 hl
      have cl := T.cl_Read
      have n1 := T.na_Read_intervals
      have n2 := T.na_Read_rest
      try simp only [tSeq, tAsg, tVar, tC, tOp, rI0, rI, tUn, rU, tIfS, tTest, tRet, tRetN, tDrop, tCB, tCons, tNil, tLst, tLstI, tTup, gName, tB, tAnd, tOr, tNot, tAndV, tOrV, tNotV, tIf, tNext, tBreak, tCont, gSub, tCall, tCallN, tAug, ipI, tBML, tBML0, isL_IL, isL_lst, L2.start, List.map_cons, List.map_nil, List.length_cons, List.length_nil, List.cons_append, List.nil_append, List.getElem?_cons_succ, List.getElem?_cons_zero, Option.some.injEq, exists_eq_left', exists_eq_left, exists_and_left, V.int.injEq, V.ref.injEq, V.bl.injEq, V.str.injEq, List.set_cons_zero, List.set_cons_succ, List.cons.injEq, and_true, true_and, Nat.reduceAdd, Nat.reduceSub, List.replicate_succ, List.replicate_zero, rIxI, rIxH, rIxTH, rSetI, rSetH, rCatI, rRepI, rSlI, rAppendI, rExtendI, decide_eq_true_eq, upd_same, IL_inj, HO.lst.injEq, toInts_cons, toInts_nil, Option.map_some, if_true, if_false, Bool.true_eq_false, Bool.false_eq_true, Bool.not_true, Bool.not_false, Bool.not_eq_true', decide_eq_false_iff_not, atI_0, atI_1, atI_2, atI_3, atI_4, Int.reduceToNat, Int.reduceLT, Int.reduceLE, Int.reduceNeg, Int.reducePow, cast_lit, upd_upd, Int.reduceAdd, Int.reduceMul, Int.reduceSub, Nat.reduceLT, Nat.reduceLeDiff, cmul_r, cdiv_r, tSl, tPart, tNoPart, rEq, rNe, scal_nn, scal_ii, scal_bb, scal_ss, scal_is, scal_si, V.ty.injEq, and_assoc, tyH_non, tyH_bl, tyH_int, tyH_str, tyH_ref, tyO_lst, tyO_IL, tyO_tup, itO_lst, itO_tup, itO_IL, Dw.rIxD, rLenI, rLenH, rLenTH, rLenQ, rLenB, rListI, Dw.rListS, rIntI, rIntB, rSumI, rIsiD, rIsX, tCallS, tMakeS, tMake, tMakeC, tMakeSC, tFld, sFld, HO.ins.injEq, HO.tup.injEq, cxOf_K, nox_K, tr_K, suite_K, rTupleI, rAllB, rAnyB, BL_inj, tChain, wOnly, wAs, wMany, rEqI, rNeI, Dw.rMax2, rMin2, Dw.rIsN, rIsNotN, rStrIn, rStrNotIn, not_true_eq_false, not_false_eq_true, reduceCtorEq, cl_bool, cl_int, cl_str, cl_list, cl_tuple, isB_NoneType_bool, isB_NoneType_int, isB_NoneType_str, isB_NoneType_list, isB_NoneType_tuple, isB_bool_bool, isB_bool_int, isB_bool_str, isB_bool_list, isB_bool_tuple, isB_int_bool, isB_int_int, isB_int_str, isB_int_list, isB_int_tuple, isB_str_bool, isB_str_int, isB_str_str, isB_str_list, isB_str_tuple, isB_list_bool, isB_list_int, isB_list_str, isB_list_list, isB_list_tuple, isB_tuple_bool, isB_tuple_int, isB_tuple_str, isB_tuple_list, isB_tuple_tuple, iEnumT, upd_ne hxl, hx1, rf_put]
      refine ⟨cl, n1, cl, n2, (by show 1 < 1000; decide), ?_⟩
      refine k1 ⟨by omega, ok2, c3, c4⟩ l _ (by rw [hx]; simp) (fun b o n hb => ?_) (same_none s1 hl) upd_same ?_
      · rw [upd_ne n]
        exact same_new hl _ _ _ (s1 _ _ hb)
      · rw [upd_ne hxl.symm, upd_same]
    · try simp only [tSeq, tAsg, tVar, tC, tOp, rI0, rI, tUn, rU, tIfS, tTest, tRet, tRetN, tDrop, tCB, tCons, tNil, tLst, tLstI, tTup, gName, tB, tAnd, tOr, tNot, tAndV, tOrV, tNotV, tIf, tNext, tBreak, tCont, gSub, tCall, tCallN, tAug, ipI, tBML, tBML0, isL_IL, isL_lst, L2.start, List.map_cons, List.map_nil, List.length_cons, List.length_nil, List.cons_append, List.nil_append, List.getElem?_cons_succ, List.getElem?_cons_zero, Option.some.injEq, exists_eq_left', exists_eq_left, exists_and_left, V.int.injEq, V.ref.injEq, V.bl.injEq, V.str.injEq, List.set_cons_zero, List.set_cons_succ, List.cons.injEq, and_true, true_and, Nat.reduceAdd, Nat.reduceSub, List.replicate_succ, List.replicate_zero, rIxI, rIxH, rIxTH, rSetI, rSetH, rCatI, rRepI, rSlI, rAppendI, rExtendI, decide_eq_true_eq, upd_same, IL_inj, HO.lst.injEq, toInts_cons, toInts_nil, Option.map_some, if_true, if_false, Bool.true_eq_false, Bool.false_eq_true, Bool.not_true, Bool.not_false, Bool.not_eq_true', decide_eq_false_iff_not, atI_0, atI_1, atI_2, atI_3, atI_4, Int.reduceToNat, Int.reduceLT, Int.reduceLE, Int.reduceNeg, Int.reducePow, cast_lit, upd_upd, Int.reduceAdd, Int.reduceMul, Int.reduceSub, Nat.reduceLT, Nat.reduceLeDiff, cmul_r, cdiv_r, tSl, tPart, tNoPart, rEq, rNe, scal_nn, scal_ii, scal_bb, scal_ss, scal_is, scal_si, V.ty.injEq, and_assoc, tyH_non, tyH_bl, tyH_int, tyH_str, tyH_ref, tyO_lst, tyO_IL, tyO_tup, itO_lst, itO_tup, itO_IL, Dw.rIxD, rLenI, rLenH, rLenTH, rLenQ, rLenB, rListI, Dw.rListS, rIntI, rIntB, rSumI, rIsiD, rIsX, tCallS, tMakeS, tMake, tMakeC, tMakeSC, tFld, sFld, HO.ins.injEq, HO.tup.injEq, cxOf_K, nox_K, tr_K, suite_K, rTupleI, rAllB, rAnyB, BL_inj, tChain, wOnly, wAs, wMany, rEqI, rNeI, Dw.rMax2, rMin2, Dw.rIsN, rIsNotN, rStrIn, rStrNotIn, not_true_eq_false, not_false_eq_true, reduceCtorEq, cl_bool, cl_int, cl_str, cl_list, cl_tuple, isB_NoneType_bool, isB_NoneType_int, isB_NoneType_str, isB_NoneType_list, isB_NoneType_tuple, isB_bool_bool, isB_bool_int, isB_bool_str, isB_bool_list, isB_bool_tuple, isB_int_bool, isB_int_int, isB_int_str, isB_int_list, isB_int_tuple, isB_str_bool, isB_str_int, isB_str_str, isB_str_list, isB_str_tuple, isB_list_bool, isB_list_int, isB_list_str, isB_list_list, isB_list_tuple, isB_tuple_bool, isB_tuple_int, isB_tuple_str, isB_tuple_list, isB_tuple_tuple, iEnumT, c4]
      exact k2 (fun o => c4 o.2.2.2) _ s1
  · rw [if_neg c3]
    exact k2 (fun o => c3 o.2.2.1) _ s1
end
section
variable {P : Program} {w : World} {K : PySem.W.Frag} {mg : Str → Option Value} {base : Heap} {A : Ad}
theorem ok_is_cell (T : Tx K mg A) : FnOk P w K mg base CX0 1 A.f_is_cell A.d_is_cell ["cell"] spIsCell := by
  refine T.F_is_cell.ok sc_is_cell (fun vs H Q E h => ?_) (fun cdv A' outer s H vs Q E hr h => ?_)
  · obtain ⟨c, rfl, _⟩ := h
    rfl
  obtain ⟨c, rfl, k⟩ := h
  refine ⟨_, (pss_one (ps_ret (pe_chain op_le op_le (pe_glob rfl T.c_LEAST_CELL T.r_LEAST_CELL) (pv 0) (pe_glob rfl T.c_GREATEST_CELL T.r_GREATEST_CELL)))), ?_⟩
  try simp only [tSeq, tAsg, tVar, tC, tOp, rI0, rI, tUn, rU, tIfS, tTest, tRet, tRetN, tDrop, tCB, tCons, tNil, tLst, tLstI, tTup, gName, tB, tAnd, tOr, tNot, tAndV, tOrV, tNotV, tIf, tNext, tBreak, tCont, gSub, tCall, tCallN, tAug, ipI, tBML, tBML0, isL_IL, isL_lst, L2.start, List.map_cons, List.map_nil, List.length_cons, List.length_nil, List.cons_append, List.nil_append, List.getElem?_cons_succ, List.getElem?_cons_zero, Option.some.injEq, exists_eq_left', exists_eq_left, exists_and_left, V.int.injEq, V.ref.injEq, V.bl.injEq, V.str.injEq, List.set_cons_zero, List.set_cons_succ, List.cons.injEq, and_true, true_and, Nat.reduceAdd, Nat.reduceSub, List.replicate_succ, List.replicate_zero, rIxI, rIxH, rIxTH, rSetI, rSetH, rCatI, rRepI, rSlI, rAppendI, rExtendI, decide_eq_true_eq, upd_same, IL_inj, HO.lst.injEq, toInts_cons, toInts_nil, Option.map_some, if_true, if_false, Bool.true_eq_false, Bool.false_eq_true, Bool.not_true, Bool.not_false, Bool.not_eq_true', decide_eq_false_iff_not, atI_0, atI_1, atI_2, atI_3, atI_4, Int.reduceToNat, Int.reduceLT, Int.reduceLE, Int.reduceNeg, Int.reducePow, cast_lit, upd_upd, Int.reduceAdd, Int.reduceMul, Int.reduceSub, Nat.reduceLT, Nat.reduceLeDiff, cmul_r, cdiv_r, tSl, tPart, tNoPart, rEq, rNe, scal_nn, scal_ii, scal_bb, scal_ss, scal_is, scal_si, V.ty.injEq, and_assoc, tyH_non, tyH_bl, tyH_int, tyH_str, tyH_ref, tyO_lst, tyO_IL, tyO_tup, itO_lst, itO_tup, itO_IL, Dw.rIxD, rLenI, rLenH, rLenTH, rLenQ, rLenB, rListI, Dw.rListS, rIntI, rIntB, rSumI, rIsiD, rIsX, tCallS, tMakeS, tMake, tMakeC, tMakeSC, tFld, sFld, HO.ins.injEq, HO.tup.injEq, cxOf_K, nox_K, tr_K, suite_K, rTupleI, rAllB, rAnyB, BL_inj, tChain, wOnly, wAs, wMany, rEqI, rNeI, Dw.rMax2, rMin2, Dw.rIsN, rIsNotN, rStrIn, rStrNotIn, not_true_eq_false, not_false_eq_true, reduceCtorEq, cl_bool, cl_int, cl_str, cl_list, cl_tuple, isB_NoneType_bool, isB_NoneType_int, isB_NoneType_str, isB_NoneType_list, isB_NoneType_tuple, isB_bool_bool, isB_bool_int, isB_bool_str, isB_bool_list, isB_bool_tuple, isB_int_bool, isB_int_int, isB_int_str, isB_int_list, isB_int_tuple, isB_str_bool, isB_str_int, isB_str_str, isB_str_list, isB_str_tuple, isB_list_bool, isB_list_int, isB_list_str, isB_list_list, isB_list_tuple, isB_tuple_bool, isB_tuple_int, isB_tuple_str, isB_tuple_list, isB_tuple_tuple, iEnumT]
  by_cases c1 : 10 ≤ c
  · rw [if_pos c1]
    rw [decide_eq_true c1, Bool.true_and] at k
    exact k
  · rw [if_neg c1]
    rw [decide_eq_false c1, Bool.false_and] at k
    exact k
theorem ok_check_cell (T : Tx K mg A) : FnOk P w K mg base (L2.CX P w) 2 A.f_check_cell A.d_check_cell ["cell"] (spCheckCell A.c_InvalidCell) := by
  refine T.F_check_cell.okX sc_check_cell (fun vs H Q E h => ?_) (fun cdv A' outer s H vs Q E hr h => ?_)
  · obtain ⟨c, rfl, _⟩ := h
    rfl
  obtain ⟨c, rfl, k1, k2⟩ := h
  refine ⟨_, (pss_one (ps_if (pt_not (pt_val (pe_call (ok_is_cell T) (hr.mono (by decide)) rfl T.g_is_cell T.F_is_cell.kp T.b_is_cell .nil pass0 (pa_cons (pv 0) pa_nil)))) (pss_one (ps_raise rfl (takes_of rfl rfl rfl rfl) (pmk_own PySem.F.excBase_ValueError T.x_InvalidCell.x T.x_InvalidCell.g T.x_InvalidCell.k (raises_own T.x_InvalidCell.b T.x_InvalidCell.t) rfl))) pss_nil)), ?_⟩
  try simp only [tSeq, tAsg, tVar, tC, tOp, rI0, rI, tUn, rU, tIfS, tTest, tRet, tRetN, tDrop, tCB, tCons, tNil, tLst, tLstI, tTup, gName, tB, tAnd, tOr, tNot, tAndV, tOrV, tNotV, tIf, tNext, tBreak, tCont, gSub, tCall, tCallN, tAug, ipI, tBML, tBML0, isL_IL, isL_lst, L2.start, List.map_cons, List.map_nil, List.length_cons, List.length_nil, List.cons_append, List.nil_append, List.getElem?_cons_succ, List.getElem?_cons_zero, Option.some.injEq, exists_eq_left', exists_eq_left, exists_and_left, V.int.injEq, V.ref.injEq, V.bl.injEq, V.str.injEq, List.set_cons_zero, List.set_cons_succ, List.cons.injEq, and_true, true_and, Nat.reduceAdd, Nat.reduceSub, List.replicate_succ, List.replicate_zero, rIxI, rIxH, rIxTH, rSetI, rSetH, rCatI, rRepI, rSlI, rAppendI, rExtendI, decide_eq_true_eq, upd_same, IL_inj, HO.lst.injEq, toInts_cons, toInts_nil, Option.map_some, if_true, if_false, Bool.true_eq_false, Bool.false_eq_true, Bool.not_true, Bool.not_false, Bool.not_eq_true', decide_eq_false_iff_not, atI_0, atI_1, atI_2, atI_3, atI_4, Int.reduceToNat, Int.reduceLT, Int.reduceLE, Int.reduceNeg, Int.reducePow, cast_lit, upd_upd, Int.reduceAdd, Int.reduceMul, Int.reduceSub, Nat.reduceLT, Nat.reduceLeDiff, cmul_r, cdiv_r, tSl, tPart, tNoPart, rEq, rNe, scal_nn, scal_ii, scal_bb, scal_ss, scal_is, scal_si, V.ty.injEq, and_assoc, tyH_non, tyH_bl, tyH_int, tyH_str, tyH_ref, tyO_lst, tyO_IL, tyO_tup, itO_lst, itO_tup, itO_IL, Dw.rIxD, rLenI, rLenH, rLenTH, rLenQ, rLenB, rListI, Dw.rListS, rIntI, rIntB, rSumI, rIsiD, rIsX, tCallS, tMakeS, tMake, tMakeC, tMakeSC, tFld, sFld, HO.ins.injEq, HO.tup.injEq, cxOf_K, nox_K, tr_K, suite_K, rTupleI, rAllB, rAnyB, BL_inj, tChain, wOnly, wAs, wMany, rEqI, rNeI, Dw.rMax2, rMin2, Dw.rIsN, rIsNotN, rStrIn, rStrNotIn, not_true_eq_false, not_false_eq_true, reduceCtorEq, cl_bool, cl_int, cl_str, cl_list, cl_tuple, isB_NoneType_bool, isB_NoneType_int, isB_NoneType_str, isB_NoneType_list, isB_NoneType_tuple, isB_bool_bool, isB_bool_int, isB_bool_str, isB_bool_list, isB_bool_tuple, isB_int_bool, isB_int_int, isB_int_str, isB_int_list, isB_int_tuple, isB_str_bool, isB_str_int, isB_str_str, isB_str_list, isB_str_tuple, isB_list_bool, isB_list_int, isB_list_str, isB_list_list, isB_list_tuple, isB_tuple_bool, isB_tuple_int, isB_tuple_str, isB_tuple_list, isB_tuple_tuple, iEnumT, spIsCell]
  unfold okCell at k1 k2
  by_cases c1 : 10 ≤ c
  · by_cases c2 : c ≤ 1000
    · try simp only [tSeq, tAsg, tVar, tC, tOp, rI0, rI, tUn, rU, tIfS, tTest, tRet, tRetN, tDrop, tCB, tCons, tNil, tLst, tLstI, tTup, gName, tB, tAnd, tOr, tNot, tAndV, tOrV, tNotV, tIf, tNext, tBreak, tCont, gSub, tCall, tCallN, tAug, ipI, tBML, tBML0, isL_IL, isL_lst, L2.start, List.map_cons, List.map_nil, List.length_cons, List.length_nil, List.cons_append, List.nil_append, List.getElem?_cons_succ, List.getElem?_cons_zero, Option.some.injEq, exists_eq_left', exists_eq_left, exists_and_left, V.int.injEq, V.ref.injEq, V.bl.injEq, V.str.injEq, List.set_cons_zero, List.set_cons_succ, List.cons.injEq, and_true, true_and, Nat.reduceAdd, Nat.reduceSub, List.replicate_succ, List.replicate_zero, rIxI, rIxH, rIxTH, rSetI, rSetH, rCatI, rRepI, rSlI, rAppendI, rExtendI, decide_eq_true_eq, upd_same, IL_inj, HO.lst.injEq, toInts_cons, toInts_nil, Option.map_some, if_true, if_false, Bool.true_eq_false, Bool.false_eq_true, Bool.not_true, Bool.not_false, Bool.not_eq_true', decide_eq_false_iff_not, atI_0, atI_1, atI_2, atI_3, atI_4, Int.reduceToNat, Int.reduceLT, Int.reduceLE, Int.reduceNeg, Int.reducePow, cast_lit, upd_upd, Int.reduceAdd, Int.reduceMul, Int.reduceSub, Nat.reduceLT, Nat.reduceLeDiff, cmul_r, cdiv_r, tSl, tPart, tNoPart, rEq, rNe, scal_nn, scal_ii, scal_bb, scal_ss, scal_is, scal_si, V.ty.injEq, and_assoc, tyH_non, tyH_bl, tyH_int, tyH_str, tyH_ref, tyO_lst, tyO_IL, tyO_tup, itO_lst, itO_tup, itO_IL, Dw.rIxD, rLenI, rLenH, rLenTH, rLenQ, rLenB, rListI, Dw.rListS, rIntI, rIntB, rSumI, rIsiD, rIsX, tCallS, tMakeS, tMake, tMakeC, tMakeSC, tFld, sFld, HO.ins.injEq, HO.tup.injEq, cxOf_K, nox_K, tr_K, suite_K, rTupleI, rAllB, rAnyB, BL_inj, tChain, wOnly, wAs, wMany, rEqI, rNeI, Dw.rMax2, rMin2, Dw.rIsN, rIsNotN, rStrIn, rStrNotIn, not_true_eq_false, not_false_eq_true, reduceCtorEq, cl_bool, cl_int, cl_str, cl_list, cl_tuple, isB_NoneType_bool, isB_NoneType_int, isB_NoneType_str, isB_NoneType_list, isB_NoneType_tuple, isB_bool_bool, isB_bool_int, isB_bool_str, isB_bool_list, isB_bool_tuple, isB_int_bool, isB_int_int, isB_int_str, isB_int_list, isB_int_tuple, isB_str_bool, isB_str_int, isB_str_str, isB_str_list, isB_str_tuple, isB_list_bool, isB_list_int, isB_list_str, isB_list_list, isB_list_tuple, isB_tuple_bool, isB_tuple_int, isB_tuple_str, isB_tuple_list, isB_tuple_tuple, iEnumT, c1, c2, decide_true, Bool.and_true]
      exact k1 ⟨c1, c2⟩
    · try simp only [tSeq, tAsg, tVar, tC, tOp, rI0, rI, tUn, rU, tIfS, tTest, tRet, tRetN, tDrop, tCB, tCons, tNil, tLst, tLstI, tTup, gName, tB, tAnd, tOr, tNot, tAndV, tOrV, tNotV, tIf, tNext, tBreak, tCont, gSub, tCall, tCallN, tAug, ipI, tBML, tBML0, isL_IL, isL_lst, L2.start, List.map_cons, List.map_nil, List.length_cons, List.length_nil, List.cons_append, List.nil_append, List.getElem?_cons_succ, List.getElem?_cons_zero, Option.some.injEq, exists_eq_left', exists_eq_left, exists_and_left, V.int.injEq, V.ref.injEq, V.bl.injEq, V.str.injEq, List.set_cons_zero, List.set_cons_succ, List.cons.injEq, and_true, true_and, Nat.reduceAdd, Nat.reduceSub, List.replicate_succ, List.replicate_zero, rIxI, rIxH, rIxTH, rSetI, rSetH, rCatI, rRepI, rSlI, rAppendI, rExtendI, decide_eq_true_eq, upd_same, IL_inj, HO.lst.injEq, toInts_cons, toInts_nil, Option.map_some, if_true, if_false, Bool.true_eq_false, Bool.false_eq_true, Bool.not_true, Bool.not_false, Bool.not_eq_true', decide_eq_false_iff_not, atI_0, atI_1, atI_2, atI_3, atI_4, Int.reduceToNat, Int.reduceLT, Int.reduceLE, Int.reduceNeg, Int.reducePow, cast_lit, upd_upd, Int.reduceAdd, Int.reduceMul, Int.reduceSub, Nat.reduceLT, Nat.reduceLeDiff, cmul_r, cdiv_r, tSl, tPart, tNoPart, rEq, rNe, scal_nn, scal_ii, scal_bb, scal_ss, scal_is, scal_si, V.ty.injEq, and_assoc, tyH_non, tyH_bl, tyH_int, tyH_str, tyH_ref, tyO_lst, tyO_IL, tyO_tup, itO_lst, itO_tup, itO_IL, Dw.rIxD, rLenI, rLenH, rLenTH, rLenQ, rLenB, rListI, Dw.rListS, rIntI, rIntB, rSumI, rIsiD, rIsX, tCallS, tMakeS, tMake, tMakeC, tMakeSC, tFld, sFld, HO.ins.injEq, HO.tup.injEq, cxOf_K, nox_K, tr_K, suite_K, rTupleI, rAllB, rAnyB, BL_inj, tChain, wOnly, wAs, wMany, rEqI, rNeI, Dw.rMax2, rMin2, Dw.rIsN, rIsNotN, rStrIn, rStrNotIn, not_true_eq_false, not_false_eq_true, reduceCtorEq, cl_bool, cl_int, cl_str, cl_list, cl_tuple, isB_NoneType_bool, isB_NoneType_int, isB_NoneType_str, isB_NoneType_list, isB_NoneType_tuple, isB_bool_bool, isB_bool_int, isB_bool_str, isB_bool_list, isB_bool_tuple, isB_int_bool, isB_int_int, isB_int_str, isB_int_list, isB_int_tuple, isB_str_bool, isB_str_int, isB_str_str, isB_str_list, isB_str_tuple, isB_list_bool, isB_list_int, isB_list_str, isB_list_list, isB_list_tuple, isB_tuple_bool, isB_tuple_int, isB_tuple_str, isB_tuple_list, isB_tuple_tuple, iEnumT, c1, c2, decide_true, decide_false, Bool.and_false]
      exact k2 (fun o => c2 o.2)
  · try simp only [tSeq, tAsg, tVar, tC, tOp, rI0, rI, tUn, rU, tIfS, tTest, tRet, tRetN, tDrop, tCB, tCons, tNil, tLst, tLstI, tTup, gName, tB, tAnd, tOr, tNot, tAndV, tOrV, tNotV, tIf, tNext, tBreak, tCont, gSub, tCall, tCallN, tAug, ipI, tBML, tBML0, isL_IL, isL_lst, L2.start, List.map_cons, List.map_nil, List.length_cons, List.length_nil, List.cons_append, List.nil_append, List.getElem?_cons_succ, List.getElem?_cons_zero, Option.some.injEq, exists_eq_left', exists_eq_left, exists_and_left, V.int.injEq, V.ref.injEq, V.bl.injEq, V.str.injEq, List.set_cons_zero, List.set_cons_succ, List.cons.injEq, and_true, true_and, Nat.reduceAdd, Nat.reduceSub, List.replicate_succ, List.replicate_zero, rIxI, rIxH, rIxTH, rSetI, rSetH, rCatI, rRepI, rSlI, rAppendI, rExtendI, decide_eq_true_eq, upd_same, IL_inj, HO.lst.injEq, toInts_cons, toInts_nil, Option.map_some, if_true, if_false, Bool.true_eq_false, Bool.false_eq_true, Bool.not_true, Bool.not_false, Bool.not_eq_true', decide_eq_false_iff_not, atI_0, atI_1, atI_2, atI_3, atI_4, Int.reduceToNat, Int.reduceLT, Int.reduceLE, Int.reduceNeg, Int.reducePow, cast_lit, upd_upd, Int.reduceAdd, Int.reduceMul, Int.reduceSub, Nat.reduceLT, Nat.reduceLeDiff, cmul_r, cdiv_r, tSl, tPart, tNoPart, rEq, rNe, scal_nn, scal_ii, scal_bb, scal_ss, scal_is, scal_si, V.ty.injEq, and_assoc, tyH_non, tyH_bl, tyH_int, tyH_str, tyH_ref, tyO_lst, tyO_IL, tyO_tup, itO_lst, itO_tup, itO_IL, Dw.rIxD, rLenI, rLenH, rLenTH, rLenQ, rLenB, rListI, Dw.rListS, rIntI, rIntB, rSumI, rIsiD, rIsX, tCallS, tMakeS, tMake, tMakeC, tMakeSC, tFld, sFld, HO.ins.injEq, HO.tup.injEq, cxOf_K, nox_K, tr_K, suite_K, rTupleI, rAllB, rAnyB, BL_inj, tChain, wOnly, wAs, wMany, rEqI, rNeI, Dw.rMax2, rMin2, Dw.rIsN, rIsNotN, rStrIn, rStrNotIn, not_true_eq_false, not_false_eq_true, reduceCtorEq, cl_bool, cl_int, cl_str, cl_list, cl_tuple, isB_NoneType_bool, isB_NoneType_int, isB_NoneType_str, isB_NoneType_list, isB_NoneType_tuple, isB_bool_bool, isB_bool_int, isB_bool_str, isB_bool_list, isB_bool_tuple, isB_int_bool, isB_int_int, isB_int_str, isB_int_list, isB_int_tuple, isB_str_bool, isB_str_int, isB_str_str, isB_str_list, isB_str_tuple, isB_list_bool, isB_list_int, isB_list_str, isB_list_list, isB_list_tuple, isB_tuple_bool, isB_tuple_int, isB_tuple_str, isB_tuple_list, isB_tuple_tuple, iEnumT, c1, decide_false, Bool.false_and]
    exact k2 (fun o => c1 o.1)
end
section
variable {P : Program} {w : World} {K : PySem.W.Frag} {mg : Str → Option Value} {base : Heap} {A : Ad}
theorem ok_flux_of (T : Tx K mg A) : FnOk P w K mg base (L2.CX P w) 3 A.f_flux_of A.d_flux_of ["cells", "cell"] (spFlux A.c_Read A.c_InvalidCell A.c_InvalidRead) := by
  refine T.F_flux_of.okX sc_flux_of (fun vs H Q E h => ?_) (fun cdv A' outer s H vs Q E hr h => ?_)
  · obtain ⟨a, c, cells, rfl, _⟩ := h
    rfl
  obtain ⟨a, c, cells, rfl, hA, hlen, k1, k2, k3⟩ := h
  refine ⟨_, (pss_cons (ps_expr (pe_call (ok_check_cell T) (hr.mono (by decide)) rfl T.g_check_cell T.F_check_cell.kp T.b_check_cell .nil (passW (takes_of rfl rfl rfl rfl) (fun _ _ _ _ h => h)) (pa_cons (pv 1) pa_nil)))
      (pss_cons (ps_set (i := 2) sc_flux_of.nd rfl (Or.inl rfl) (pe_lstI pa_nil))
      (pss_cons (ps_set (i := 3) sc_flux_of.nd rfl (Or.inl rfl) pe_int)
      (pss_cons (ps_for (passes_of rfl) rfl (pi_list (pv 0)) (pg_name (i := 4) sc_flux_of.nd rfl (Or.inl rfl))
        (pss_cons (ps_aug (i := 3) sc_flux_of.nd rfl (Or.inl rfl) pe_int ip_add)
      (pss_one (ps_if (pt_cmpR op_eq (pv 4) pe_int (nomark _)) (pss_cons (ps_expr (PE.imp (pe_bm PySem.F.plainAttrs_list PySem.F.slot_list_append PySem.F.type_list_append mt_appendI (pv 2) (pa_cons (pe_op op_mul (pv 1) (pv 3)) pa_nil)) bml_imp))
      (pss_one (ps_set (i := 3) sc_flux_of.nd rfl (Or.inl rfl) pe_int))) pss_nil))))
      (pss_one (ps_ret (pe_makeC conv_read T.mk_Read (ok_Readinit T) (hr.mono (by decide)) rfl T.gc_Read T.b_Readinit (passW (takes_of rfl rfl rfl rfl) (fun _ _ _ _ h => h)) (pa_cons (pv 2) (pa_cons (pe_op op_mul (pv 1) (pv 3)) pa_nil))))))))), ?_⟩
  try simp only [tSeq, tAsg, tVar, tC, tOp, rI0, rI, tUn, rU, tIfS, tTest, tRet, tRetN, tDrop, tCB, tCons, tNil, tLst, tLstI, tTup, gName, tB, tAnd, tOr, tNot, tAndV, tOrV, tNotV, tIf, tNext, tBreak, tCont, gSub, tCall, tCallN, tAug, ipI, tBML, tBML0, isL_IL, isL_lst, L2.start, List.map_cons, List.map_nil, List.length_cons, List.length_nil, List.cons_append, List.nil_append, List.getElem?_cons_succ, List.getElem?_cons_zero, Option.some.injEq, exists_eq_left', exists_eq_left, exists_and_left, V.int.injEq, V.ref.injEq, V.bl.injEq, V.str.injEq, List.set_cons_zero, List.set_cons_succ, List.cons.injEq, and_true, true_and, Nat.reduceAdd, Nat.reduceSub, List.replicate_succ, List.replicate_zero, rIxI, rIxH, rIxTH, rSetI, rSetH, rCatI, rRepI, rSlI, rAppendI, rExtendI, decide_eq_true_eq, upd_same, IL_inj, HO.lst.injEq, toInts_cons, toInts_nil, Option.map_some, if_true, if_false, Bool.true_eq_false, Bool.false_eq_true, Bool.not_true, Bool.not_false, Bool.not_eq_true', decide_eq_false_iff_not, atI_0, atI_1, atI_2, atI_3, atI_4, Int.reduceToNat, Int.reduceLT, Int.reduceLE, Int.reduceNeg, Int.reducePow, cast_lit, upd_upd, Int.reduceAdd, Int.reduceMul, Int.reduceSub, Nat.reduceLT, Nat.reduceLeDiff, cmul_r, cdiv_r, tSl, tPart, tNoPart, rEq, rNe, scal_nn, scal_ii, scal_bb, scal_ss, scal_is, scal_si, V.ty.injEq, and_assoc, tyH_non, tyH_bl, tyH_int, tyH_str, tyH_ref, tyO_lst, tyO_IL, tyO_tup, itO_lst, itO_tup, itO_IL, Dw.rIxD, rLenI, rLenH, rLenTH, rLenQ, rLenB, rListI, Dw.rListS, rIntI, rIntB, rSumI, rIsiD, rIsX, tCallS, tMakeS, tMake, tMakeC, tMakeSC, tFld, sFld, HO.ins.injEq, HO.tup.injEq, cxOf_K, nox_K, tr_K, suite_K, rTupleI, rAllB, rAnyB, BL_inj, tChain, wOnly, wAs, wMany, rEqI, rNeI, Dw.rMax2, rMin2, Dw.rIsN, rIsNotN, rStrIn, rStrNotIn, not_true_eq_false, not_false_eq_true, reduceCtorEq, cl_bool, cl_int, cl_str, cl_list, cl_tuple, isB_NoneType_bool, isB_NoneType_int, isB_NoneType_str, isB_NoneType_list, isB_NoneType_tuple, isB_bool_bool, isB_bool_int, isB_bool_str, isB_bool_list, isB_bool_tuple, isB_int_bool, isB_int_int, isB_int_str, isB_int_list, isB_int_tuple, isB_str_bool, isB_str_int, isB_str_str, isB_str_list, isB_str_tuple, isB_list_bool, isB_list_int, isB_list_str, isB_list_list, isB_list_tuple, isB_tuple_bool, isB_tuple_int, isB_tuple_str, isB_tuple_list, isB_tuple_tuple, iEnumT]
  refine ⟨c, rfl, fun oc => ?_, fun no => k3 no⟩
  have k1 := k1 oc
  have k2 := k2 oc
  obtain ⟨c10, c1000⟩ := oc
  refine ⟨line_le (by decide), fun l hl0 => ?_⟩
  have s0 : Same H (upd H l (IL [])) := same_new hl0 _
  obtain ⟨I, hI⟩ : ∃ F : Nat → L2.St → Hp → Prop, F = (fun i σ H' => Same H H' ∧ H' l = some (IL (fluxS c (cells.take i)).1) ∧ ∃ z, σ = [some (.ref a), some (.int c), some (.ref l), some (.int (fluxS c (cells.take i)).2), z]) := ⟨_, rfl⟩
  refine ⟨_, rfl, a, rfl, ⟨_, .of (s0 _ _ hA)⟩, for_list (xs := cells.map V.int) I (by rw [hI]; exact ⟨s0, upd_same, none, rfl⟩) ?_ ?_ ?_⟩
  · intro i σ H' hi h
    rw [hI] at h
    exact .of (h.1 _ _ hA)
  · intro i v σ H' hi h
    rw [hI] at h
    obtain ⟨s1, e1, z', rfl⟩ := h
    obtain ⟨b, rfl, hb⟩ := ints_at hi
    have hlt : i < cells.length := (List.getElem?_eq_some_iff.mp hb).1
    have hbd := fluxS_bound c cells i (by omega)
    have hmo := fluxS_more (c := c) hb
    have cm : ∀ x, CMul c x := fun x => .inl ⟨by omega, by omega⟩
    try simp only [tSeq, tAsg, tVar, tC, tOp, rI0, rI, tUn, rU, tIfS, tTest, tRet, tRetN, tDrop, tCB, tCons, tNil, tLst, tLstI, tTup, gName, tB, tAnd, tOr, tNot, tAndV, tOrV, tNotV, tIf, tNext, tBreak, tCont, gSub, tCall, tCallN, tAug, ipI, tBML, tBML0, isL_IL, isL_lst, L2.start, List.map_cons, List.map_nil, List.length_cons, List.length_nil, List.cons_append, List.nil_append, List.getElem?_cons_succ, List.getElem?_cons_zero, Option.some.injEq, exists_eq_left', exists_eq_left, exists_and_left, V.int.injEq, V.ref.injEq, V.bl.injEq, V.str.injEq, List.set_cons_zero, List.set_cons_succ, List.cons.injEq, and_true, true_and, Nat.reduceAdd, Nat.reduceSub, List.replicate_succ, List.replicate_zero, rIxI, rIxH, rIxTH, rSetI, rSetH, rCatI, rRepI, rSlI, rAppendI, rExtendI, decide_eq_true_eq, upd_same, IL_inj, HO.lst.injEq, toInts_cons, toInts_nil, Option.map_some, if_true, if_false, Bool.true_eq_false, Bool.false_eq_true, Bool.not_true, Bool.not_false, Bool.not_eq_true', decide_eq_false_iff_not, atI_0, atI_1, atI_2, atI_3, atI_4, Int.reduceToNat, Int.reduceLT, Int.reduceLE, Int.reduceNeg, Int.reducePow, cast_lit, upd_upd, Int.reduceAdd, Int.reduceMul, Int.reduceSub, Nat.reduceLT, Nat.reduceLeDiff, cmul_r, cdiv_r, tSl, tPart, tNoPart, rEq, rNe, scal_nn, scal_ii, scal_bb, scal_ss, scal_is, scal_si, V.ty.injEq, and_assoc, tyH_non, tyH_bl, tyH_int, tyH_str, tyH_ref, tyO_lst, tyO_IL, tyO_tup, itO_lst, itO_tup, itO_IL, Dw.rIxD, rLenI, rLenH, rLenTH, rLenQ, rLenB, rListI, Dw.rListS, rIntI, rIntB, rSumI, rIsiD, rIsX, tCallS, tMakeS, tMake, tMakeC, tMakeSC, tFld, sFld, HO.ins.injEq, HO.tup.injEq, cxOf_K, nox_K, tr_K, suite_K, rTupleI, rAllB, rAnyB, BL_inj, tChain, wOnly, wAs, wMany, rEqI, rNeI, Dw.rMax2, rMin2, Dw.rIsN, rIsNotN, rStrIn, rStrNotIn, not_true_eq_false, not_false_eq_true, reduceCtorEq, cl_bool, cl_int, cl_str, cl_list, cl_tuple, isB_NoneType_bool, isB_NoneType_int, isB_NoneType_str, isB_NoneType_list, isB_NoneType_tuple, isB_bool_bool, isB_bool_int, isB_bool_str, isB_bool_list, isB_bool_tuple, isB_int_bool, isB_int_int, isB_int_str, isB_int_list, isB_int_tuple, isB_str_bool, isB_str_int, isB_str_str, isB_str_list, isB_str_tuple, isB_list_bool, isB_list_int, isB_list_str, isB_list_list, isB_list_tuple, isB_tuple_bool, isB_tuple_int, isB_tuple_str, isB_tuple_list, isB_tuple_tuple, iEnumT, e1, cm]
    by_cases h1 : b = 1
    · rw [if_pos h1]
      refine ⟨line_lt (by omega), ?_⟩
      rw [hI]
      refine ⟨fun b o hb => ?_, ?_, some (.int b), ?_⟩
      · rw [upd_ne (ne_of_none hb hl0)]
        exact s1 _ _ hb
      · rw [upd_same, hmo]
        unfold fluxT
        rw [if_pos h1]
      · rw [hmo]
        unfold fluxT
        rw [if_pos h1]
    · rw [if_neg h1]
      rw [hI]
      refine ⟨s1, ?_, some (.int b), ?_⟩
      · rw [e1, hmo]
        unfold fluxT
        rw [if_neg h1]
      · rw [hmo]
        unfold fluxT
        rw [if_neg h1]
  · intro σ H' h
    rw [hI] at h
    obtain ⟨s1, e1, z', rfl⟩ := h
    rw [List.length_map, List.take_length] at e1 ⊢
    have cm : ∀ x, CMul c x := fun x => .inl ⟨by omega, by omega⟩
    try simp only [tSeq, tAsg, tVar, tC, tOp, rI0, rI, tUn, rU, tIfS, tTest, tRet, tRetN, tDrop, tCB, tCons, tNil, tLst, tLstI, tTup, gName, tB, tAnd, tOr, tNot, tAndV, tOrV, tNotV, tIf, tNext, tBreak, tCont, gSub, tCall, tCallN, tAug, ipI, tBML, tBML0, isL_IL, isL_lst, L2.start, List.map_cons, List.map_nil, List.length_cons, List.length_nil, List.cons_append, List.nil_append, List.getElem?_cons_succ, List.getElem?_cons_zero, Option.some.injEq, exists_eq_left', exists_eq_left, exists_and_left, V.int.injEq, V.ref.injEq, V.bl.injEq, V.str.injEq, List.set_cons_zero, List.set_cons_succ, List.cons.injEq, and_true, true_and, Nat.reduceAdd, Nat.reduceSub, List.replicate_succ, List.replicate_zero, rIxI, rIxH, rIxTH, rSetI, rSetH, rCatI, rRepI, rSlI, rAppendI, rExtendI, decide_eq_true_eq, upd_same, IL_inj, HO.lst.injEq, toInts_cons, toInts_nil, Option.map_some, if_true, if_false, Bool.true_eq_false, Bool.false_eq_true, Bool.not_true, Bool.not_false, Bool.not_eq_true', decide_eq_false_iff_not, atI_0, atI_1, atI_2, atI_3, atI_4, Int.reduceToNat, Int.reduceLT, Int.reduceLE, Int.reduceNeg, Int.reducePow, cast_lit, upd_upd, Int.reduceAdd, Int.reduceMul, Int.reduceSub, Nat.reduceLT, Nat.reduceLeDiff, cmul_r, cdiv_r, tSl, tPart, tNoPart, rEq, rNe, scal_nn, scal_ii, scal_bb, scal_ss, scal_is, scal_si, V.ty.injEq, and_assoc, tyH_non, tyH_bl, tyH_int, tyH_str, tyH_ref, tyO_lst, tyO_IL, tyO_tup, itO_lst, itO_tup, itO_IL, Dw.rIxD, rLenI, rLenH, rLenTH, rLenQ, rLenB, rListI, Dw.rListS, rIntI, rIntB, rSumI, rIsiD, rIsX, tCallS, tMakeS, tMake, tMakeC, tMakeSC, tFld, sFld, HO.ins.injEq, HO.tup.injEq, cxOf_K, nox_K, tr_K, suite_K, rTupleI, rAllB, rAnyB, BL_inj, tChain, wOnly, wAs, wMany, rEqI, rNeI, Dw.rMax2, rMin2, Dw.rIsN, rIsNotN, rStrIn, rStrNotIn, not_true_eq_false, not_false_eq_true, reduceCtorEq, cl_bool, cl_int, cl_str, cl_list, cl_tuple, isB_NoneType_bool, isB_NoneType_int, isB_NoneType_str, isB_NoneType_list, isB_NoneType_tuple, isB_bool_bool, isB_bool_int, isB_bool_str, isB_bool_list, isB_bool_tuple, isB_int_bool, isB_int_int, isB_int_str, isB_int_list, isB_int_tuple, isB_str_bool, isB_str_int, isB_str_str, isB_str_list, isB_str_tuple, isB_list_bool, isB_list_int, isB_list_str, isB_list_list, isB_list_tuple, isB_tuple_bool, isB_tuple_int, isB_tuple_str, isB_tuple_list, isB_tuple_tuple, iEnumT, cm]
    exact ⟨l, _, _, rfl, e1, fun ok r H2 s2 n2 hrd => k1 ok r H2 (s1.trans s2) (same_none s1 n2) hrd, fun no H2 s2 => k2 no H2 (s1.trans s2)⟩
end
section
variable {P : Program} {w : World} {K : PySem.W.Frag} {mg : Str → Option Value} {base : Heap} {A : Ad}
theorem ok_fixed_cells (T : Tx K mg A) : FnOk P w K mg base (L2.CX P w) 3 A.f_fixed_cells A.d_fixed_cells ["read", "cell"] (spFixed A.c_Read A.c_InvalidCell) := by
  refine T.F_fixed_cells.okX sc_fixed_cells (fun vs H Q E h => ?_) (fun cdv A' outer s H vs Q E hr h => ?_)
  · obtain ⟨r, c, ns, rest, rfl, _⟩ := h
    rfl
  obtain ⟨r, c, ns, rest, rfl, ⟨dx, t, hR, hT⟩, ok, k1, k2⟩ := h
  refine ⟨_, (pss_cons (ps_expr (pe_call (ok_check_cell T) (hr.mono (by decide)) rfl T.g_check_cell T.F_check_cell.kp T.b_check_cell .nil (passW (takes_of rfl rfl rfl rfl) (fun _ _ _ _ h => h)) (pa_cons (pv 1) pa_nil)))
      (pss_cons (ps_set (i := 2) sc_fixed_cells.nd rfl (Or.inl rfl) (pe_lstI pa_nil))
      (pss_cons (ps_for (passes_of rfl) rfl (pi_tup (pe_fld (pv 0) rfl)) (pg_name (i := 3) sc_fixed_cells.nd rfl (Or.inl rfl))
        (pss_cons (ps_set (i := 4) sc_fixed_cells.nd rfl (Or.inl rfl) (pe_callB (call_maxI rfl) (by rfl) T.z_max (by decide +kernel) (pa_cons pe_int (pa_cons (pe_op op_fdiv (pe_op op_add (pe_op op_mul pe_int (pv 3)) (pv 1)) (pe_op op_mul pe_int (pv 1))) pa_nil))))
      (pss_cons (ps_expr (PE.imp (pe_bm PySem.F.plainAttrs_list PySem.F.slot_list_extend PySem.F.type_list_extend mt_extendI (pv 2) (pa_cons (pe_op op_repI (pe_lstI (pa_cons pe_int pa_nil)) (pe_op op_sub (pv 4) pe_int)) pa_nil)) bml_imp))
      (pss_one (ps_expr (PE.imp (pe_bm PySem.F.plainAttrs_list PySem.F.slot_list_append PySem.F.type_list_append mt_appendI (pv 2) (pa_cons pe_int pa_nil)) bml_imp))))))
      (pss_cons (ps_expr (PE.imp (pe_bm PySem.F.plainAttrs_list PySem.F.slot_list_extend PySem.F.type_list_extend mt_extendI (pv 2) (pa_cons (pe_op op_repI (pe_lstI (pa_cons pe_int pa_nil)) (pe_op op_fdiv (pe_op op_add (pe_op op_mul pe_int (pe_fld (pv 0) rfl)) (pv 1)) (pe_op op_mul pe_int (pv 1)))) pa_nil)) bml_imp))
      (pss_one (ps_ret (pv 2))))))), ?_⟩
  try simp only [tSeq, tAsg, tVar, tC, tOp, rI0, rI, tUn, rU, tIfS, tTest, tRet, tRetN, tDrop, tCB, tCons, tNil, tLst, tLstI, tTup, gName, tB, tAnd, tOr, tNot, tAndV, tOrV, tNotV, tIf, tNext, tBreak, tCont, gSub, tCall, tCallN, tAug, ipI, tBML, tBML0, isL_IL, isL_lst, L2.start, List.map_cons, List.map_nil, List.length_cons, List.length_nil, List.cons_append, List.nil_append, List.getElem?_cons_succ, List.getElem?_cons_zero, Option.some.injEq, exists_eq_left', exists_eq_left, exists_and_left, V.int.injEq, V.ref.injEq, V.bl.injEq, V.str.injEq, List.set_cons_zero, List.set_cons_succ, List.cons.injEq, and_true, true_and, Nat.reduceAdd, Nat.reduceSub, List.replicate_succ, List.replicate_zero, rIxI, rIxH, rIxTH, rSetI, rSetH, rCatI, rRepI, rSlI, rAppendI, rExtendI, decide_eq_true_eq, upd_same, IL_inj, HO.lst.injEq, toInts_cons, toInts_nil, Option.map_some, if_true, if_false, Bool.true_eq_false, Bool.false_eq_true, Bool.not_true, Bool.not_false, Bool.not_eq_true', decide_eq_false_iff_not, atI_0, atI_1, atI_2, atI_3, atI_4, Int.reduceToNat, Int.reduceLT, Int.reduceLE, Int.reduceNeg, Int.reducePow, cast_lit, upd_upd, Int.reduceAdd, Int.reduceMul, Int.reduceSub, Nat.reduceLT, Nat.reduceLeDiff, cmul_r, cdiv_r, tSl, tPart, tNoPart, rEq, rNe, scal_nn, scal_ii, scal_bb, scal_ss, scal_is, scal_si, V.ty.injEq, and_assoc, tyH_non, tyH_bl, tyH_int, tyH_str, tyH_ref, tyO_lst, tyO_IL, tyO_tup, itO_lst, itO_tup, itO_IL, Dw.rIxD, rLenI, rLenH, rLenTH, rLenQ, rLenB, rListI, Dw.rListS, rIntI, rIntB, rSumI, rIsiD, rIsX, tCallS, tMakeS, tMake, tMakeC, tMakeSC, tFld, sFld, HO.ins.injEq, HO.tup.injEq, cxOf_K, nox_K, tr_K, suite_K, rTupleI, rAllB, rAnyB, BL_inj, tChain, wOnly, wAs, wMany, rEqI, rNeI, Dw.rMax2, rMin2, Dw.rIsN, rIsNotN, rStrIn, rStrNotIn, not_true_eq_false, not_false_eq_true, reduceCtorEq, cl_bool, cl_int, cl_str, cl_list, cl_tuple, isB_NoneType_bool, isB_NoneType_int, isB_NoneType_str, isB_NoneType_list, isB_NoneType_tuple, isB_bool_bool, isB_bool_int, isB_bool_str, isB_bool_list, isB_bool_tuple, isB_int_bool, isB_int_int, isB_int_str, isB_int_list, isB_int_tuple, isB_str_bool, isB_str_int, isB_str_str, isB_str_list, isB_str_tuple, isB_list_bool, isB_list_int, isB_list_str, isB_list_list, isB_list_tuple, isB_tuple_bool, isB_tuple_int, isB_tuple_str, isB_tuple_list, isB_tuple_tuple, iEnumT]
  refine ⟨c, rfl, fun oc => ?_, fun no => k2 no⟩
  obtain ⟨few, k1⟩ := k1 oc
  obtain ⟨c10, c1000⟩ := oc
  refine ⟨line_le (by decide), fun l hl0 => ?_⟩
  have s0 : Same H (upd H l (IL [])) := same_new hl0 _
  obtain ⟨I, hI⟩ : ∃ F : Nat → L2.St → Hp → Prop, F = (fun i σ H' => Same H H' ∧ H' l = some (IL (fixedP (ns.take i) c)) ∧ ∃ y z, σ = [some (.ref r), some (.int c), some (.ref l), y, z]) := ⟨_, rfl⟩
  refine ⟨_, rfl, r, _, dx, _, _, rfl, s0 _ _ hR, T.cl_Read, T.na_Read_intervals, rf_int t rest, t, rfl, ⟨_, .of (s0 _ _ hT)⟩, for_tup (xs := ns.map V.int) I (by rw [hI]; exact ⟨s0, upd_same, none, none, rfl⟩) ?_ ?_ ?_⟩
  · intro i σ H' hi h
    rw [hI] at h
    exact .of (h.1 _ _ hT)
  · intro i v σ H' hi h
    rw [hI] at h
    obtain ⟨s1, e1, y, z', rfl⟩ := h
    obtain ⟨z, rfl, hz⟩ := ints_at hi
    have hzr := ok.2.1 z (List.mem_of_getElem? hz)
    have hlt : i < ns.length := (List.getElem?_eq_some_iff.mp hz).1
    have hN : nCells z c ≤ 2002000 := by
      unfold nCells
      have : (2 * z + c) / (2 * c) ≤ (2 * z + c) := Int.ediv_le_self _ (by omega)
      omega
    have en : (2 * z + c) / (2 * c) = nCells z c := rfl
    have hm : 1 ≤ max 1 (nCells z c) := by omega
    have hlen := fixedP_take_len ns c (i + 1)
    rw [fixedP_more hz, List.length_append] at hlen
    have hol := oneCells_nat hm
    have nn := nCells_nn (t := rest) (c := c) ok.2.2.1 (by omega)
    unfold Few at few
    have cd : CDiv (2 * z + c) (2 * c) := ⟨by omega, by omega⟩
    have cm1 : CMul 2 z := .inl ⟨by decide, by decide⟩
    have cm2 : CMul 2 c := .inl ⟨by decide, by decide⟩
    try simp only [tSeq, tAsg, tVar, tC, tOp, rI0, rI, tUn, rU, tIfS, tTest, tRet, tRetN, tDrop, tCB, tCons, tNil, tLst, tLstI, tTup, gName, tB, tAnd, tOr, tNot, tAndV, tOrV, tNotV, tIf, tNext, tBreak, tCont, gSub, tCall, tCallN, tAug, ipI, tBML, tBML0, isL_IL, isL_lst, L2.start, List.map_cons, List.map_nil, List.length_cons, List.length_nil, List.cons_append, List.nil_append, List.getElem?_cons_succ, List.getElem?_cons_zero, Option.some.injEq, exists_eq_left', exists_eq_left, exists_and_left, V.int.injEq, V.ref.injEq, V.bl.injEq, V.str.injEq, List.set_cons_zero, List.set_cons_succ, List.cons.injEq, and_true, true_and, Nat.reduceAdd, Nat.reduceSub, List.replicate_succ, List.replicate_zero, rIxI, rIxH, rIxTH, rSetI, rSetH, rCatI, rRepI, rSlI, rAppendI, rExtendI, decide_eq_true_eq, upd_same, IL_inj, HO.lst.injEq, toInts_cons, toInts_nil, Option.map_some, if_true, if_false, Bool.true_eq_false, Bool.false_eq_true, Bool.not_true, Bool.not_false, Bool.not_eq_true', decide_eq_false_iff_not, atI_0, atI_1, atI_2, atI_3, atI_4, Int.reduceToNat, Int.reduceLT, Int.reduceLE, Int.reduceNeg, Int.reducePow, cast_lit, upd_upd, Int.reduceAdd, Int.reduceMul, Int.reduceSub, Nat.reduceLT, Nat.reduceLeDiff, cmul_r, cdiv_r, tSl, tPart, tNoPart, rEq, rNe, scal_nn, scal_ii, scal_bb, scal_ss, scal_is, scal_si, V.ty.injEq, and_assoc, tyH_non, tyH_bl, tyH_int, tyH_str, tyH_ref, tyO_lst, tyO_IL, tyO_tup, itO_lst, itO_tup, itO_IL, Dw.rIxD, rLenI, rLenH, rLenTH, rLenQ, rLenB, rListI, Dw.rListS, rIntI, rIntB, rSumI, rIsiD, rIsX, tCallS, tMakeS, tMake, tMakeC, tMakeSC, tFld, sFld, HO.ins.injEq, HO.tup.injEq, cxOf_K, nox_K, tr_K, suite_K, rTupleI, rAllB, rAnyB, BL_inj, tChain, wOnly, wAs, wMany, rEqI, rNeI, Dw.rMax2, rMin2, Dw.rIsN, rIsNotN, rStrIn, rStrNotIn, not_true_eq_false, not_false_eq_true, reduceCtorEq, cl_bool, cl_int, cl_str, cl_list, cl_tuple, isB_NoneType_bool, isB_NoneType_int, isB_NoneType_str, isB_NoneType_list, isB_NoneType_tuple, isB_bool_bool, isB_bool_int, isB_bool_str, isB_bool_list, isB_bool_tuple, isB_int_bool, isB_int_int, isB_int_str, isB_int_list, isB_int_tuple, isB_str_bool, isB_str_int, isB_str_str, isB_str_list, isB_str_tuple, isB_list_bool, isB_list_int, isB_list_str, isB_list_list, isB_list_tuple, isB_tuple_bool, isB_tuple_int, isB_tuple_str, isB_tuple_list, isB_tuple_tuple, iEnumT, e1, cd, cm1, cm2, en]
    refine ⟨line_le (by decide), fun u hu => ⟨by omega, by omega, line_le (by show 1 * _ ≤ _; omega), fun u2 hu2 => ?_⟩⟩
    have n1 : l ≠ u := ne_of_none e1 hu
    have hu2' : H' u2 = none := same_none (same_new hu _) hu2
    have n2 : l ≠ u2 := ne_of_none e1 hu2'
    try simp only [tSeq, tAsg, tVar, tC, tOp, rI0, rI, tUn, rU, tIfS, tTest, tRet, tRetN, tDrop, tCB, tCons, tNil, tLst, tLstI, tTup, gName, tB, tAnd, tOr, tNot, tAndV, tOrV, tNotV, tIf, tNext, tBreak, tCont, gSub, tCall, tCallN, tAug, ipI, tBML, tBML0, isL_IL, isL_lst, L2.start, List.map_cons, List.map_nil, List.length_cons, List.length_nil, List.cons_append, List.nil_append, List.getElem?_cons_succ, List.getElem?_cons_zero, Option.some.injEq, exists_eq_left', exists_eq_left, exists_and_left, V.int.injEq, V.ref.injEq, V.bl.injEq, V.str.injEq, List.set_cons_zero, List.set_cons_succ, List.cons.injEq, and_true, true_and, Nat.reduceAdd, Nat.reduceSub, List.replicate_succ, List.replicate_zero, rIxI, rIxH, rIxTH, rSetI, rSetH, rCatI, rRepI, rSlI, rAppendI, rExtendI, decide_eq_true_eq, upd_same, IL_inj, HO.lst.injEq, toInts_cons, toInts_nil, Option.map_some, if_true, if_false, Bool.true_eq_false, Bool.false_eq_true, Bool.not_true, Bool.not_false, Bool.not_eq_true', decide_eq_false_iff_not, atI_0, atI_1, atI_2, atI_3, atI_4, Int.reduceToNat, Int.reduceLT, Int.reduceLE, Int.reduceNeg, Int.reducePow, cast_lit, upd_upd, Int.reduceAdd, Int.reduceMul, Int.reduceSub, Nat.reduceLT, Nat.reduceLeDiff, cmul_r, cdiv_r, tSl, tPart, tNoPart, rEq, rNe, scal_nn, scal_ii, scal_bb, scal_ss, scal_is, scal_si, V.ty.injEq, and_assoc, tyH_non, tyH_bl, tyH_int, tyH_str, tyH_ref, tyO_lst, tyO_IL, tyO_tup, itO_lst, itO_tup, itO_IL, Dw.rIxD, rLenI, rLenH, rLenTH, rLenQ, rLenB, rListI, Dw.rListS, rIntI, rIntB, rSumI, rIsiD, rIsX, tCallS, tMakeS, tMake, tMakeC, tMakeSC, tFld, sFld, HO.ins.injEq, HO.tup.injEq, cxOf_K, nox_K, tr_K, suite_K, rTupleI, rAllB, rAnyB, BL_inj, tChain, wOnly, wAs, wMany, rEqI, rNeI, Dw.rMax2, rMin2, Dw.rIsN, rIsNotN, rStrIn, rStrNotIn, not_true_eq_false, not_false_eq_true, reduceCtorEq, cl_bool, cl_int, cl_str, cl_list, cl_tuple, isB_NoneType_bool, isB_NoneType_int, isB_NoneType_str, isB_NoneType_list, isB_NoneType_tuple, isB_bool_bool, isB_bool_int, isB_bool_str, isB_bool_list, isB_bool_tuple, isB_int_bool, isB_int_int, isB_int_str, isB_int_list, isB_int_tuple, isB_str_bool, isB_str_int, isB_str_str, isB_str_list, isB_str_tuple, isB_list_bool, isB_list_int, isB_list_str, isB_list_list, isB_list_tuple, isB_tuple_bool, isB_tuple_int, isB_tuple_str, isB_tuple_list, isB_tuple_tuple, iEnumT, upd_ne n1, upd_ne n2, e1, rep_zero]
    refine ⟨?_, ?_, ?_⟩
    · rw [List.length_replicate]
      exact line_le (by omega)
    · rw [List.length_append, List.length_replicate]
      exact line_lt (by omega)
    · rw [hI]
      refine ⟨fun b o hb => ?_, ?_, _, _, rfl⟩
      · rw [upd_ne (ne_of_none hb hl0)]
        exact same_new hu2 _ _ _ (same_new hu _ _ _ (s1 _ _ hb))
      · rw [upd_same, fixedP_more hz]
        unfold oneCells
        rw [List.append_assoc]
  · intro σ H' h
    rw [hI] at h
    obtain ⟨s1, e1, y, z', rfl⟩ := h
    rw [List.length_map, List.take_length] at e1
    try simp only [tSeq, tAsg, tVar, tC, tOp, rI0, rI, tUn, rU, tIfS, tTest, tRet, tRetN, tDrop, tCB, tCons, tNil, tLst, tLstI, tTup, gName, tB, tAnd, tOr, tNot, tAndV, tOrV, tNotV, tIf, tNext, tBreak, tCont, gSub, tCall, tCallN, tAug, ipI, tBML, tBML0, isL_IL, isL_lst, L2.start, List.map_cons, List.map_nil, List.length_cons, List.length_nil, List.cons_append, List.nil_append, List.getElem?_cons_succ, List.getElem?_cons_zero, Option.some.injEq, exists_eq_left', exists_eq_left, exists_and_left, V.int.injEq, V.ref.injEq, V.bl.injEq, V.str.injEq, List.set_cons_zero, List.set_cons_succ, List.cons.injEq, and_true, true_and, Nat.reduceAdd, Nat.reduceSub, List.replicate_succ, List.replicate_zero, rIxI, rIxH, rIxTH, rSetI, rSetH, rCatI, rRepI, rSlI, rAppendI, rExtendI, decide_eq_true_eq, upd_same, IL_inj, HO.lst.injEq, toInts_cons, toInts_nil, Option.map_some, if_true, if_false, Bool.true_eq_false, Bool.false_eq_true, Bool.not_true, Bool.not_false, Bool.not_eq_true', decide_eq_false_iff_not, atI_0, atI_1, atI_2, atI_3, atI_4, Int.reduceToNat, Int.reduceLT, Int.reduceLE, Int.reduceNeg, Int.reducePow, cast_lit, upd_upd, Int.reduceAdd, Int.reduceMul, Int.reduceSub, Nat.reduceLT, Nat.reduceLeDiff, cmul_r, cdiv_r, tSl, tPart, tNoPart, rEq, rNe, scal_nn, scal_ii, scal_bb, scal_ss, scal_is, scal_si, V.ty.injEq, and_assoc, tyH_non, tyH_bl, tyH_int, tyH_str, tyH_ref, tyO_lst, tyO_IL, tyO_tup, itO_lst, itO_tup, itO_IL, Dw.rIxD, rLenI, rLenH, rLenTH, rLenQ, rLenB, rListI, Dw.rListS, rIntI, rIntB, rSumI, rIsiD, rIsX, tCallS, tMakeS, tMake, tMakeC, tMakeSC, tFld, sFld, HO.ins.injEq, HO.tup.injEq, cxOf_K, nox_K, tr_K, suite_K, rTupleI, rAllB, rAnyB, BL_inj, tChain, wOnly, wAs, wMany, rEqI, rNeI, Dw.rMax2, rMin2, Dw.rIsN, rIsNotN, rStrIn, rStrNotIn, not_true_eq_false, not_false_eq_true, reduceCtorEq, cl_bool, cl_int, cl_str, cl_list, cl_tuple, isB_NoneType_bool, isB_NoneType_int, isB_NoneType_str, isB_NoneType_list, isB_NoneType_tuple, isB_bool_bool, isB_bool_int, isB_bool_str, isB_bool_list, isB_bool_tuple, isB_int_bool, isB_int_int, isB_int_str, isB_int_list, isB_int_tuple, isB_str_bool, isB_str_int, isB_str_str, isB_str_list, isB_str_tuple, isB_list_bool, isB_list_int, isB_list_str, isB_list_list, isB_list_tuple, isB_tuple_bool, isB_tuple_int, isB_tuple_str, isB_tuple_list, isB_tuple_tuple, iEnumT]
    have hR' := s1 _ _ hR
    have nn := nCells_nn (t := rest) (c := c) ok.2.2.1 (by omega)
    have en : (2 * rest + c) / (2 * c) = nCells rest c := rfl
    unfold Few at few
    have cd : CDiv (2 * rest + c) (2 * c) := ⟨by omega, by omega⟩
    have cm1 : CMul 2 rest := .inl ⟨by decide, by decide⟩
    have cm2 : CMul 2 c := .inl ⟨by decide, by decide⟩
    have cl := T.cl_Read
    have na := T.na_Read_rest
    have hl1 : isL (H' l) = true := by rw [e1]; rfl
    try simp only [tSeq, tAsg, tVar, tC, tOp, rI0, rI, tUn, rU, tIfS, tTest, tRet, tRetN, tDrop, tCB, tCons, tNil, tLst, tLstI, tTup, gName, tB, tAnd, tOr, tNot, tAndV, tOrV, tNotV, tIf, tNext, tBreak, tCont, gSub, tCall, tCallN, tAug, ipI, tBML, tBML0, isL_IL, isL_lst, L2.start, List.map_cons, List.map_nil, List.length_cons, List.length_nil, List.cons_append, List.nil_append, List.getElem?_cons_succ, List.getElem?_cons_zero, Option.some.injEq, exists_eq_left', exists_eq_left, exists_and_left, V.int.injEq, V.ref.injEq, V.bl.injEq, V.str.injEq, List.set_cons_zero, List.set_cons_succ, List.cons.injEq, and_true, true_and, Nat.reduceAdd, Nat.reduceSub, List.replicate_succ, List.replicate_zero, rIxI, rIxH, rIxTH, rSetI, rSetH, rCatI, rRepI, rSlI, rAppendI, rExtendI, decide_eq_true_eq, upd_same, IL_inj, HO.lst.injEq, toInts_cons, toInts_nil, Option.map_some, if_true, if_false, Bool.true_eq_false, Bool.false_eq_true, Bool.not_true, Bool.not_false, Bool.not_eq_true', decide_eq_false_iff_not, atI_0, atI_1, atI_2, atI_3, atI_4, Int.reduceToNat, Int.reduceLT, Int.reduceLE, Int.reduceNeg, Int.reducePow, cast_lit, upd_upd, Int.reduceAdd, Int.reduceMul, Int.reduceSub, Nat.reduceLT, Nat.reduceLeDiff, cmul_r, cdiv_r, tSl, tPart, tNoPart, rEq, rNe, scal_nn, scal_ii, scal_bb, scal_ss, scal_is, scal_si, V.ty.injEq, and_assoc, tyH_non, tyH_bl, tyH_int, tyH_str, tyH_ref, tyO_lst, tyO_IL, tyO_tup, itO_lst, itO_tup, itO_IL, Dw.rIxD, rLenI, rLenH, rLenTH, rLenQ, rLenB, rListI, Dw.rListS, rIntI, rIntB, rSumI, rIsiD, rIsX, tCallS, tMakeS, tMake, tMakeC, tMakeSC, tFld, sFld, HO.ins.injEq, HO.tup.injEq, cxOf_K, nox_K, tr_K, suite_K, rTupleI, rAllB, rAnyB, BL_inj, tChain, wOnly, wAs, wMany, rEqI, rNeI, Dw.rMax2, rMin2, Dw.rIsN, rIsNotN, rStrIn, rStrNotIn, not_true_eq_false, not_false_eq_true, reduceCtorEq, cl_bool, cl_int, cl_str, cl_list, cl_tuple, isB_NoneType_bool, isB_NoneType_int, isB_NoneType_str, isB_NoneType_list, isB_NoneType_tuple, isB_bool_bool, isB_bool_int, isB_bool_str, isB_bool_list, isB_bool_tuple, isB_int_bool, isB_int_int, isB_int_str, isB_int_list, isB_int_tuple, isB_str_bool, isB_str_int, isB_str_str, isB_str_list, isB_str_tuple, isB_list_bool, isB_list_int, isB_list_str, isB_list_list, isB_list_tuple, isB_tuple_bool, isB_tuple_int, isB_tuple_str, isB_tuple_list, isB_tuple_tuple, iEnumT, hl1]
    refine ⟨line_le (by decide), fun u hu => ?_⟩
    have hRu := same_new hu (IL [0]) _ _ hR'
    have n1 : l ≠ u := ne_of_none e1 hu
    try simp only [tSeq, tAsg, tVar, tC, tOp, rI0, rI, tUn, rU, tIfS, tTest, tRet, tRetN, tDrop, tCB, tCons, tNil, tLst, tLstI, tTup, gName, tB, tAnd, tOr, tNot, tAndV, tOrV, tNotV, tIf, tNext, tBreak, tCont, gSub, tCall, tCallN, tAug, ipI, tBML, tBML0, isL_IL, isL_lst, L2.start, List.map_cons, List.map_nil, List.length_cons, List.length_nil, List.cons_append, List.nil_append, List.getElem?_cons_succ, List.getElem?_cons_zero, Option.some.injEq, exists_eq_left', exists_eq_left, exists_and_left, V.int.injEq, V.ref.injEq, V.bl.injEq, V.str.injEq, List.set_cons_zero, List.set_cons_succ, List.cons.injEq, and_true, true_and, Nat.reduceAdd, Nat.reduceSub, List.replicate_succ, List.replicate_zero, rIxI, rIxH, rIxTH, rSetI, rSetH, rCatI, rRepI, rSlI, rAppendI, rExtendI, decide_eq_true_eq, upd_same, IL_inj, HO.lst.injEq, toInts_cons, toInts_nil, Option.map_some, if_true, if_false, Bool.true_eq_false, Bool.false_eq_true, Bool.not_true, Bool.not_false, Bool.not_eq_true', decide_eq_false_iff_not, atI_0, atI_1, atI_2, atI_3, atI_4, Int.reduceToNat, Int.reduceLT, Int.reduceLE, Int.reduceNeg, Int.reducePow, cast_lit, upd_upd, Int.reduceAdd, Int.reduceMul, Int.reduceSub, Nat.reduceLT, Nat.reduceLeDiff, cmul_r, cdiv_r, tSl, tPart, tNoPart, rEq, rNe, scal_nn, scal_ii, scal_bb, scal_ss, scal_is, scal_si, V.ty.injEq, and_assoc, tyH_non, tyH_bl, tyH_int, tyH_str, tyH_ref, tyO_lst, tyO_IL, tyO_tup, itO_lst, itO_tup, itO_IL, Dw.rIxD, rLenI, rLenH, rLenTH, rLenQ, rLenB, rListI, Dw.rListS, rIntI, rIntB, rSumI, rIsiD, rIsX, tCallS, tMakeS, tMake, tMakeC, tMakeSC, tFld, sFld, HO.ins.injEq, HO.tup.injEq, cxOf_K, nox_K, tr_K, suite_K, rTupleI, rAllB, rAnyB, BL_inj, tChain, wOnly, wAs, wMany, rEqI, rNeI, Dw.rMax2, rMin2, Dw.rIsN, rIsNotN, rStrIn, rStrNotIn, not_true_eq_false, not_false_eq_true, reduceCtorEq, cl_bool, cl_int, cl_str, cl_list, cl_tuple, isB_NoneType_bool, isB_NoneType_int, isB_NoneType_str, isB_NoneType_list, isB_NoneType_tuple, isB_bool_bool, isB_bool_int, isB_bool_str, isB_bool_list, isB_bool_tuple, isB_int_bool, isB_int_int, isB_int_str, isB_int_list, isB_int_tuple, isB_str_bool, isB_str_int, isB_str_str, isB_str_list, isB_str_tuple, isB_list_bool, isB_list_int, isB_list_str, isB_list_list, isB_list_tuple, isB_tuple_bool, isB_tuple_int, isB_tuple_str, isB_tuple_list, isB_tuple_tuple, iEnumT, hRu, cl, na, rf_rest, cm1, cm2, cd, en]
    refine ⟨by omega, by omega, line_le (by show 1 * _ ≤ _; omega), fun u2 hu2 => ?_⟩
    have hu2' : H' u2 = none := same_none (same_new hu _) hu2
    have n2 : l ≠ u2 := ne_of_none e1 hu2'
    try simp only [tSeq, tAsg, tVar, tC, tOp, rI0, rI, tUn, rU, tIfS, tTest, tRet, tRetN, tDrop, tCB, tCons, tNil, tLst, tLstI, tTup, gName, tB, tAnd, tOr, tNot, tAndV, tOrV, tNotV, tIf, tNext, tBreak, tCont, gSub, tCall, tCallN, tAug, ipI, tBML, tBML0, isL_IL, isL_lst, L2.start, List.map_cons, List.map_nil, List.length_cons, List.length_nil, List.cons_append, List.nil_append, List.getElem?_cons_succ, List.getElem?_cons_zero, Option.some.injEq, exists_eq_left', exists_eq_left, exists_and_left, V.int.injEq, V.ref.injEq, V.bl.injEq, V.str.injEq, List.set_cons_zero, List.set_cons_succ, List.cons.injEq, and_true, true_and, Nat.reduceAdd, Nat.reduceSub, List.replicate_succ, List.replicate_zero, rIxI, rIxH, rIxTH, rSetI, rSetH, rCatI, rRepI, rSlI, rAppendI, rExtendI, decide_eq_true_eq, upd_same, IL_inj, HO.lst.injEq, toInts_cons, toInts_nil, Option.map_some, if_true, if_false, Bool.true_eq_false, Bool.false_eq_true, Bool.not_true, Bool.not_false, Bool.not_eq_true', decide_eq_false_iff_not, atI_0, atI_1, atI_2, atI_3, atI_4, Int.reduceToNat, Int.reduceLT, Int.reduceLE, Int.reduceNeg, Int.reducePow, cast_lit, upd_upd, Int.reduceAdd, Int.reduceMul, Int.reduceSub, Nat.reduceLT, Nat.reduceLeDiff, cmul_r, cdiv_r, tSl, tPart, tNoPart, rEq, rNe, scal_nn, scal_ii, scal_bb, scal_ss, scal_is, scal_si, V.ty.injEq, and_assoc, tyH_non, tyH_bl, tyH_int, tyH_str, tyH_ref, tyO_lst, tyO_IL, tyO_tup, itO_lst, itO_tup, itO_IL, Dw.rIxD, rLenI, rLenH, rLenTH, rLenQ, rLenB, rListI, Dw.rListS, rIntI, rIntB, rSumI, rIsiD, rIsX, tCallS, tMakeS, tMake, tMakeC, tMakeSC, tFld, sFld, HO.ins.injEq, HO.tup.injEq, cxOf_K, nox_K, tr_K, suite_K, rTupleI, rAllB, rAnyB, BL_inj, tChain, wOnly, wAs, wMany, rEqI, rNeI, Dw.rMax2, rMin2, Dw.rIsN, rIsNotN, rStrIn, rStrNotIn, not_true_eq_false, not_false_eq_true, reduceCtorEq, cl_bool, cl_int, cl_str, cl_list, cl_tuple, isB_NoneType_bool, isB_NoneType_int, isB_NoneType_str, isB_NoneType_list, isB_NoneType_tuple, isB_bool_bool, isB_bool_int, isB_bool_str, isB_bool_list, isB_bool_tuple, isB_int_bool, isB_int_int, isB_int_str, isB_int_list, isB_int_tuple, isB_str_bool, isB_str_int, isB_str_str, isB_str_list, isB_str_tuple, isB_list_bool, isB_list_int, isB_list_str, isB_list_list, isB_list_tuple, isB_tuple_bool, isB_tuple_int, isB_tuple_str, isB_tuple_list, isB_tuple_tuple, iEnumT, upd_ne n1, upd_ne n2, e1, rep_zero]
    refine ⟨?_, k1 l _ (fun b o hb => ?_) hl0 ?_⟩
    · rw [List.length_replicate]
      exact line_le (by omega)
    · rw [upd_ne (ne_of_none hb hl0)]
      exact same_new hu2 _ _ _ (same_new hu _ _ _ (s1 _ _ hb))
    · rw [upd_same]
      rfl
end
section
variable {P : Program} {w : World} {K : PySem.W.Frag} {mg : Str → Option Value} {base : Heap} {A : Ad}
theorem ok_following_cells (T : Tx K mg A) : FnOk P w K mg base (L2.CX P w) 3 A.f_following_cells A.d_following_cells ["read", "cell"] (spFollow A.c_Read A.c_InvalidCell) := by
  refine T.F_following_cells.okX sc_following_cells (fun vs H Q E h => ?_) (fun cdv A' outer s H vs Q E hr h => ?_)
  · obtain ⟨r, c, ns, rest, rfl, _⟩ := h
    rfl
  obtain ⟨r, c, ns, rest, rfl, ⟨dx, t, hR, hT⟩, ok, k1, k2⟩ := h
  refine ⟨_, (pss_cons (ps_expr (pe_call (ok_check_cell T) (hr.mono (by decide)) rfl T.g_check_cell T.F_check_cell.kp T.b_check_cell .nil (passW (takes_of rfl rfl rfl rfl) (fun _ _ _ _ h => h)) (pa_cons (pv 1) pa_nil)))
      (pss_cons (ps_set (i := 2) sc_following_cells.nd rfl (Or.inl rfl) (pe_lstI pa_nil))
      (pss_cons (ps_set (i := 3) sc_following_cells.nd rfl (Or.inl rfl) (pe_op op_mul pe_int (pv 1)))
      (pss_cons (ps_for (passes_of rfl) rfl (pi_tup (pe_fld (pv 0) rfl)) (pg_name (i := 4) sc_following_cells.nd rfl (Or.inl rfl))
        (pss_cons (ps_set (i := 5) sc_following_cells.nd rfl (Or.inl rfl) (pe_callB (call_maxI rfl) (by rfl) T.z_max (by decide +kernel) (pa_cons pe_int (pa_cons (pe_op op_fdiv (pe_op op_add (pe_op op_mul pe_int (pv 4)) (pv 3)) (pe_op op_mul pe_int (pv 3))) pa_nil))))
      (pss_cons (ps_expr (PE.imp (pe_bm PySem.F.plainAttrs_list PySem.F.slot_list_extend PySem.F.type_list_extend mt_extendI (pv 2) (pa_cons (pe_op op_repI (pe_lstI (pa_cons pe_int pa_nil)) (pe_op op_sub (pv 5) pe_int)) pa_nil)) bml_imp))
      (pss_cons (ps_expr (PE.imp (pe_bm PySem.F.plainAttrs_list PySem.F.slot_list_append PySem.F.type_list_append mt_appendI (pv 2) (pa_cons pe_int pa_nil)) bml_imp))
      (pss_cons (ps_set (i := 6) sc_following_cells.nd rfl (Or.inl rfl) (pe_op op_fdiv (pe_op op_sub (pe_op op_mul pe_int (pv 4)) (pe_op op_mul (pv 5) (pv 3))) (pe_op op_mul pe_int (pv 5))))
      (pss_one (ps_set (i := 3) sc_following_cells.nd rfl (Or.inl rfl) (pe_callB (call_minI rfl) (by rfl) T.z_min (by decide +kernel) (pa_cons (pe_callB (call_maxI rfl) (by rfl) T.z_max (by decide +kernel) (pa_cons (pe_op op_add (pv 3) (pv 6)) (pa_cons (pe_op op_mul pe_int (pv 1)) pa_nil))) (pa_cons (pe_op op_mul pe_int (pv 1)) pa_nil))))))))))
      (pss_cons (ps_expr (PE.imp (pe_bm PySem.F.plainAttrs_list PySem.F.slot_list_extend PySem.F.type_list_extend mt_extendI (pv 2) (pa_cons (pe_op op_repI (pe_lstI (pa_cons pe_int pa_nil)) (pe_op op_fdiv (pe_op op_add (pe_op op_mul pe_int (pe_fld (pv 0) rfl)) (pv 3)) (pe_op op_mul pe_int (pv 3)))) pa_nil)) bml_imp))
      (pss_one (ps_ret (pv 2)))))))), ?_⟩
  try simp only [tSeq, tAsg, tVar, tC, tOp, rI0, rI, tUn, rU, tIfS, tTest, tRet, tRetN, tDrop, tCB, tCons, tNil, tLst, tLstI, tTup, gName, tB, tAnd, tOr, tNot, tAndV, tOrV, tNotV, tIf, tNext, tBreak, tCont, gSub, tCall, tCallN, tAug, ipI, tBML, tBML0, isL_IL, isL_lst, L2.start, List.map_cons, List.map_nil, List.length_cons, List.length_nil, List.cons_append, List.nil_append, List.getElem?_cons_succ, List.getElem?_cons_zero, Option.some.injEq, exists_eq_left', exists_eq_left, exists_and_left, V.int.injEq, V.ref.injEq, V.bl.injEq, V.str.injEq, List.set_cons_zero, List.set_cons_succ, List.cons.injEq, and_true, true_and, Nat.reduceAdd, Nat.reduceSub, List.replicate_succ, List.replicate_zero, rIxI, rIxH, rIxTH, rSetI, rSetH, rCatI, rRepI, rSlI, rAppendI, rExtendI, decide_eq_true_eq, upd_same, IL_inj, HO.lst.injEq, toInts_cons, toInts_nil, Option.map_some, if_true, if_false, Bool.true_eq_false, Bool.false_eq_true, Bool.not_true, Bool.not_false, Bool.not_eq_true', decide_eq_false_iff_not, atI_0, atI_1, atI_2, atI_3, atI_4, Int.reduceToNat, Int.reduceLT, Int.reduceLE, Int.reduceNeg, Int.reducePow, cast_lit, upd_upd, Int.reduceAdd, Int.reduceMul, Int.reduceSub, Nat.reduceLT, Nat.reduceLeDiff, cmul_r, cdiv_r, tSl, tPart, tNoPart, rEq, rNe, scal_nn, scal_ii, scal_bb, scal_ss, scal_is, scal_si, V.ty.injEq, and_assoc, tyH_non, tyH_bl, tyH_int, tyH_str, tyH_ref, tyO_lst, tyO_IL, tyO_tup, itO_lst, itO_tup, itO_IL, Dw.rIxD, rLenI, rLenH, rLenTH, rLenQ, rLenB, rListI, Dw.rListS, rIntI, rIntB, rSumI, rIsiD, rIsX, tCallS, tMakeS, tMake, tMakeC, tMakeSC, tFld, sFld, HO.ins.injEq, HO.tup.injEq, cxOf_K, nox_K, tr_K, suite_K, rTupleI, rAllB, rAnyB, BL_inj, tChain, wOnly, wAs, wMany, rEqI, rNeI, Dw.rMax2, rMin2, Dw.rIsN, rIsNotN, rStrIn, rStrNotIn, not_true_eq_false, not_false_eq_true, reduceCtorEq, cl_bool, cl_int, cl_str, cl_list, cl_tuple, isB_NoneType_bool, isB_NoneType_int, isB_NoneType_str, isB_NoneType_list, isB_NoneType_tuple, isB_bool_bool, isB_bool_int, isB_bool_str, isB_bool_list, isB_bool_tuple, isB_int_bool, isB_int_int, isB_int_str, isB_int_list, isB_int_tuple, isB_str_bool, isB_str_int, isB_str_str, isB_str_list, isB_str_tuple, isB_list_bool, isB_list_int, isB_list_str, isB_list_list, isB_list_tuple, isB_tuple_bool, isB_tuple_int, isB_tuple_str, isB_tuple_list, isB_tuple_tuple, iEnumT]
  refine ⟨c, rfl, fun oc => ?_, fun no => k2 no⟩
  obtain ⟨few, k1⟩ := k1 oc
  obtain ⟨c10, c1000⟩ := oc
  refine ⟨line_le (by decide), fun l hl0 => ?_⟩
  have s0 : Same H (upd H l (IL [])) := same_new hl0 _
  have cm16 : CMul 16 c := .inl ⟨by decide, by decide⟩
  try simp only [tSeq, tAsg, tVar, tC, tOp, rI0, rI, tUn, rU, tIfS, tTest, tRet, tRetN, tDrop, tCB, tCons, tNil, tLst, tLstI, tTup, gName, tB, tAnd, tOr, tNot, tAndV, tOrV, tNotV, tIf, tNext, tBreak, tCont, gSub, tCall, tCallN, tAug, ipI, tBML, tBML0, isL_IL, isL_lst, L2.start, List.map_cons, List.map_nil, List.length_cons, List.length_nil, List.cons_append, List.nil_append, List.getElem?_cons_succ, List.getElem?_cons_zero, Option.some.injEq, exists_eq_left', exists_eq_left, exists_and_left, V.int.injEq, V.ref.injEq, V.bl.injEq, V.str.injEq, List.set_cons_zero, List.set_cons_succ, List.cons.injEq, and_true, true_and, Nat.reduceAdd, Nat.reduceSub, List.replicate_succ, List.replicate_zero, rIxI, rIxH, rIxTH, rSetI, rSetH, rCatI, rRepI, rSlI, rAppendI, rExtendI, decide_eq_true_eq, upd_same, IL_inj, HO.lst.injEq, toInts_cons, toInts_nil, Option.map_some, if_true, if_false, Bool.true_eq_false, Bool.false_eq_true, Bool.not_true, Bool.not_false, Bool.not_eq_true', decide_eq_false_iff_not, atI_0, atI_1, atI_2, atI_3, atI_4, Int.reduceToNat, Int.reduceLT, Int.reduceLE, Int.reduceNeg, Int.reducePow, cast_lit, upd_upd, Int.reduceAdd, Int.reduceMul, Int.reduceSub, Nat.reduceLT, Nat.reduceLeDiff, cmul_r, cdiv_r, tSl, tPart, tNoPart, rEq, rNe, scal_nn, scal_ii, scal_bb, scal_ss, scal_is, scal_si, V.ty.injEq, and_assoc, tyH_non, tyH_bl, tyH_int, tyH_str, tyH_ref, tyO_lst, tyO_IL, tyO_tup, itO_lst, itO_tup, itO_IL, Dw.rIxD, rLenI, rLenH, rLenTH, rLenQ, rLenB, rListI, Dw.rListS, rIntI, rIntB, rSumI, rIsiD, rIsX, tCallS, tMakeS, tMake, tMakeC, tMakeSC, tFld, sFld, HO.ins.injEq, HO.tup.injEq, cxOf_K, nox_K, tr_K, suite_K, rTupleI, rAllB, rAnyB, BL_inj, tChain, wOnly, wAs, wMany, rEqI, rNeI, Dw.rMax2, rMin2, Dw.rIsN, rIsNotN, rStrIn, rStrNotIn, not_true_eq_false, not_false_eq_true, reduceCtorEq, cl_bool, cl_int, cl_str, cl_list, cl_tuple, isB_NoneType_bool, isB_NoneType_int, isB_NoneType_str, isB_NoneType_list, isB_NoneType_tuple, isB_bool_bool, isB_bool_int, isB_bool_str, isB_bool_list, isB_bool_tuple, isB_int_bool, isB_int_int, isB_int_str, isB_int_list, isB_int_tuple, isB_str_bool, isB_str_int, isB_str_str, isB_str_list, isB_str_tuple, isB_list_bool, isB_list_int, isB_list_str, isB_list_list, isB_list_tuple, isB_tuple_bool, isB_tuple_int, isB_tuple_str, isB_tuple_list, isB_tuple_tuple, iEnumT, cm16]
  obtain ⟨I, hI⟩ : ∃ F : Nat → L2.St → Hp → Prop, F = (fun i σ H' => Same H H' ∧ H' l = some (IL (folS c (ns.take i)).2) ∧ ∃ y z q, σ = [some (.ref r), some (.int c), some (.ref l), some (.int (folS c (ns.take i)).1), y, z, q]) := ⟨_, rfl⟩
  refine ⟨_, rfl, r, _, dx, _, _, rfl, s0 _ _ hR, T.cl_Read, T.na_Read_intervals, rf_int t rest, t, rfl, ⟨_, .of (s0 _ _ hT)⟩, for_tup (xs := ns.map V.int) I (by rw [hI]; exact ⟨s0, upd_same, none, none, none, rfl⟩) ?_ ?_ ?_⟩
  · intro i σ H' hi h
    rw [hI] at h
    exact .of (h.1 _ _ hT)
  · intro i v σ H' hi h
    rw [hI] at h
    obtain ⟨s1, e1, y, z', q', rfl⟩ := h
    obtain ⟨z, rfl, hz⟩ := ints_at hi
    have hzr := ok.2.1 z (List.mem_of_getElem? hz)
    have hlt : i < ns.length := (List.getElem?_eq_some_iff.mp hz).1
    have hp := folS_period (c := c) (by omega) (ns.take i)
    have hmo := folS_more (c := c) hz
    have hlen := folS_len (c := c) ns (i + 1)
    rw [hmo] at hlen
    unfold FewF at few
    have hpa := folS_period (c := c) (by omega) ns
    have nn := folR_nn (t := rest) (p := (folS c ns).1) ok.2.2.1 (by omega)
    generalize folS c (ns.take i) = s at e1 hp hmo hlen
    obtain ⟨p, out⟩ := s
    simp only at e1 hp hlen
    have hlen : (out ++ oneCells (folN z p)).length ≤ (folS c ns).2.length := hlen
    have hN1 : 1 ≤ folN z p := by unfold folN; omega
    have hN2 : folN z p ≤ 32100000 := by
      unfold folN
      have : (32 * z + p) / (2 * p) ≤ 32 * z + p := Int.ediv_le_self _ (by omega)
      omega
    have hol := oneCells_nat hN1
    rw [List.length_append] at hlen
    have en : max 1 ((32 * z + p) / (2 * p)) = folN z p := rfl
    have ep : min (max (p + (16 * z - folN z p * p) / (8 * folN z p)) (12 * c)) (20 * c) = folP z p c := rfl
    have cd1 : CDiv (32 * z + p) (2 * p) := ⟨by omega, by omega⟩
    have cd2 : CDiv (16 * z - folN z p * p) (8 * folN z p) := ⟨by omega, by omega⟩
    have cmA : ∀ x, CMul 32 x := fun x => .inl ⟨by decide, by decide⟩
    have cmB : ∀ x, CMul 2 x := fun x => .inl ⟨by decide, by decide⟩
    have cmC : ∀ x, CMul 16 x := fun x => .inl ⟨by decide, by decide⟩
    have cmD : ∀ x, CMul 8 x := fun x => .inl ⟨by decide, by decide⟩
    have cmE : ∀ x, CMul 12 x := fun x => .inl ⟨by decide, by decide⟩
    have cmF : ∀ x, CMul 20 x := fun x => .inl ⟨by decide, by decide⟩
    have cmG : CMul (folN z p) p := .inl ⟨by omega, by omega⟩
    try simp only [tSeq, tAsg, tVar, tC, tOp, rI0, rI, tUn, rU, tIfS, tTest, tRet, tRetN, tDrop, tCB, tCons, tNil, tLst, tLstI, tTup, gName, tB, tAnd, tOr, tNot, tAndV, tOrV, tNotV, tIf, tNext, tBreak, tCont, gSub, tCall, tCallN, tAug, ipI, tBML, tBML0, isL_IL, isL_lst, L2.start, List.map_cons, List.map_nil, List.length_cons, List.length_nil, List.cons_append, List.nil_append, List.getElem?_cons_succ, List.getElem?_cons_zero, Option.some.injEq, exists_eq_left', exists_eq_left, exists_and_left, V.int.injEq, V.ref.injEq, V.bl.injEq, V.str.injEq, List.set_cons_zero, List.set_cons_succ, List.cons.injEq, and_true, true_and, Nat.reduceAdd, Nat.reduceSub, List.replicate_succ, List.replicate_zero, rIxI, rIxH, rIxTH, rSetI, rSetH, rCatI, rRepI, rSlI, rAppendI, rExtendI, decide_eq_true_eq, upd_same, IL_inj, HO.lst.injEq, toInts_cons, toInts_nil, Option.map_some, if_true, if_false, Bool.true_eq_false, Bool.false_eq_true, Bool.not_true, Bool.not_false, Bool.not_eq_true', decide_eq_false_iff_not, atI_0, atI_1, atI_2, atI_3, atI_4, Int.reduceToNat, Int.reduceLT, Int.reduceLE, Int.reduceNeg, Int.reducePow, cast_lit, upd_upd, Int.reduceAdd, Int.reduceMul, Int.reduceSub, Nat.reduceLT, Nat.reduceLeDiff, cmul_r, cdiv_r, tSl, tPart, tNoPart, rEq, rNe, scal_nn, scal_ii, scal_bb, scal_ss, scal_is, scal_si, V.ty.injEq, and_assoc, tyH_non, tyH_bl, tyH_int, tyH_str, tyH_ref, tyO_lst, tyO_IL, tyO_tup, itO_lst, itO_tup, itO_IL, Dw.rIxD, rLenI, rLenH, rLenTH, rLenQ, rLenB, rListI, Dw.rListS, rIntI, rIntB, rSumI, rIsiD, rIsX, tCallS, tMakeS, tMake, tMakeC, tMakeSC, tFld, sFld, HO.ins.injEq, HO.tup.injEq, cxOf_K, nox_K, tr_K, suite_K, rTupleI, rAllB, rAnyB, BL_inj, tChain, wOnly, wAs, wMany, rEqI, rNeI, Dw.rMax2, rMin2, Dw.rIsN, rIsNotN, rStrIn, rStrNotIn, not_true_eq_false, not_false_eq_true, reduceCtorEq, cl_bool, cl_int, cl_str, cl_list, cl_tuple, isB_NoneType_bool, isB_NoneType_int, isB_NoneType_str, isB_NoneType_list, isB_NoneType_tuple, isB_bool_bool, isB_bool_int, isB_bool_str, isB_bool_list, isB_bool_tuple, isB_int_bool, isB_int_int, isB_int_str, isB_int_list, isB_int_tuple, isB_str_bool, isB_str_int, isB_str_str, isB_str_list, isB_str_tuple, isB_list_bool, isB_list_int, isB_list_str, isB_list_list, isB_list_tuple, isB_tuple_bool, isB_tuple_int, isB_tuple_str, isB_tuple_list, isB_tuple_tuple, iEnumT, e1, cd1, cmA, cmB, cmC, cmD, cmE, cmF, en, cmG, cd2, ep]
    refine ⟨line_le (by decide), fun u hu => ⟨by omega, by omega, line_le (by show 1 * _ ≤ _; omega), fun u2 hu2 => ?_⟩⟩
    have n1 : l ≠ u := ne_of_none e1 hu
    have hu2' : H' u2 = none := same_none (same_new hu _) hu2
    have n2 : l ≠ u2 := ne_of_none e1 hu2'
    try simp only [tSeq, tAsg, tVar, tC, tOp, rI0, rI, tUn, rU, tIfS, tTest, tRet, tRetN, tDrop, tCB, tCons, tNil, tLst, tLstI, tTup, gName, tB, tAnd, tOr, tNot, tAndV, tOrV, tNotV, tIf, tNext, tBreak, tCont, gSub, tCall, tCallN, tAug, ipI, tBML, tBML0, isL_IL, isL_lst, L2.start, List.map_cons, List.map_nil, List.length_cons, List.length_nil, List.cons_append, List.nil_append, List.getElem?_cons_succ, List.getElem?_cons_zero, Option.some.injEq, exists_eq_left', exists_eq_left, exists_and_left, V.int.injEq, V.ref.injEq, V.bl.injEq, V.str.injEq, List.set_cons_zero, List.set_cons_succ, List.cons.injEq, and_true, true_and, Nat.reduceAdd, Nat.reduceSub, List.replicate_succ, List.replicate_zero, rIxI, rIxH, rIxTH, rSetI, rSetH, rCatI, rRepI, rSlI, rAppendI, rExtendI, decide_eq_true_eq, upd_same, IL_inj, HO.lst.injEq, toInts_cons, toInts_nil, Option.map_some, if_true, if_false, Bool.true_eq_false, Bool.false_eq_true, Bool.not_true, Bool.not_false, Bool.not_eq_true', decide_eq_false_iff_not, atI_0, atI_1, atI_2, atI_3, atI_4, Int.reduceToNat, Int.reduceLT, Int.reduceLE, Int.reduceNeg, Int.reducePow, cast_lit, upd_upd, Int.reduceAdd, Int.reduceMul, Int.reduceSub, Nat.reduceLT, Nat.reduceLeDiff, cmul_r, cdiv_r, tSl, tPart, tNoPart, rEq, rNe, scal_nn, scal_ii, scal_bb, scal_ss, scal_is, scal_si, V.ty.injEq, and_assoc, tyH_non, tyH_bl, tyH_int, tyH_str, tyH_ref, tyO_lst, tyO_IL, tyO_tup, itO_lst, itO_tup, itO_IL, Dw.rIxD, rLenI, rLenH, rLenTH, rLenQ, rLenB, rListI, Dw.rListS, rIntI, rIntB, rSumI, rIsiD, rIsX, tCallS, tMakeS, tMake, tMakeC, tMakeSC, tFld, sFld, HO.ins.injEq, HO.tup.injEq, cxOf_K, nox_K, tr_K, suite_K, rTupleI, rAllB, rAnyB, BL_inj, tChain, wOnly, wAs, wMany, rEqI, rNeI, Dw.rMax2, rMin2, Dw.rIsN, rIsNotN, rStrIn, rStrNotIn, not_true_eq_false, not_false_eq_true, reduceCtorEq, cl_bool, cl_int, cl_str, cl_list, cl_tuple, isB_NoneType_bool, isB_NoneType_int, isB_NoneType_str, isB_NoneType_list, isB_NoneType_tuple, isB_bool_bool, isB_bool_int, isB_bool_str, isB_bool_list, isB_bool_tuple, isB_int_bool, isB_int_int, isB_int_str, isB_int_list, isB_int_tuple, isB_str_bool, isB_str_int, isB_str_str, isB_str_list, isB_str_tuple, isB_list_bool, isB_list_int, isB_list_str, isB_list_list, isB_list_tuple, isB_tuple_bool, isB_tuple_int, isB_tuple_str, isB_tuple_list, isB_tuple_tuple, iEnumT, upd_ne n1, upd_ne n2, e1, rep_zero]
    refine ⟨?_, ?_, ?_⟩
    · rw [List.length_replicate]
      exact line_le (by omega)
    · rw [List.length_append, List.length_replicate]
      exact line_lt (by omega)
    · rw [hI]
      refine ⟨fun b o hb => ?_, ?_, some (.int z), some (.int (folN z p)), some (.int ((16 * z - folN z p * p) / (8 * folN z p))), ?_⟩
      · rw [upd_ne (ne_of_none hb hl0)]
        exact same_new hu2 _ _ _ (same_new hu _ _ _ (s1 _ _ hb))
      · rw [upd_same, hmo]
        show _ = some (IL (out ++ oneCells (folN z p)))
        unfold oneCells
        rw [List.append_assoc]
      · rw [hmo]
        rfl
  · intro σ H' h
    rw [hI] at h
    obtain ⟨s1, e1, y, z', q', rfl⟩ := h
    rw [List.length_map, List.take_length] at e1 ⊢
    try simp only [tSeq, tAsg, tVar, tC, tOp, rI0, rI, tUn, rU, tIfS, tTest, tRet, tRetN, tDrop, tCB, tCons, tNil, tLst, tLstI, tTup, gName, tB, tAnd, tOr, tNot, tAndV, tOrV, tNotV, tIf, tNext, tBreak, tCont, gSub, tCall, tCallN, tAug, ipI, tBML, tBML0, isL_IL, isL_lst, L2.start, List.map_cons, List.map_nil, List.length_cons, List.length_nil, List.cons_append, List.nil_append, List.getElem?_cons_succ, List.getElem?_cons_zero, Option.some.injEq, exists_eq_left', exists_eq_left, exists_and_left, V.int.injEq, V.ref.injEq, V.bl.injEq, V.str.injEq, List.set_cons_zero, List.set_cons_succ, List.cons.injEq, and_true, true_and, Nat.reduceAdd, Nat.reduceSub, List.replicate_succ, List.replicate_zero, rIxI, rIxH, rIxTH, rSetI, rSetH, rCatI, rRepI, rSlI, rAppendI, rExtendI, decide_eq_true_eq, upd_same, IL_inj, HO.lst.injEq, toInts_cons, toInts_nil, Option.map_some, if_true, if_false, Bool.true_eq_false, Bool.false_eq_true, Bool.not_true, Bool.not_false, Bool.not_eq_true', decide_eq_false_iff_not, atI_0, atI_1, atI_2, atI_3, atI_4, Int.reduceToNat, Int.reduceLT, Int.reduceLE, Int.reduceNeg, Int.reducePow, cast_lit, upd_upd, Int.reduceAdd, Int.reduceMul, Int.reduceSub, Nat.reduceLT, Nat.reduceLeDiff, cmul_r, cdiv_r, tSl, tPart, tNoPart, rEq, rNe, scal_nn, scal_ii, scal_bb, scal_ss, scal_is, scal_si, V.ty.injEq, and_assoc, tyH_non, tyH_bl, tyH_int, tyH_str, tyH_ref, tyO_lst, tyO_IL, tyO_tup, itO_lst, itO_tup, itO_IL, Dw.rIxD, rLenI, rLenH, rLenTH, rLenQ, rLenB, rListI, Dw.rListS, rIntI, rIntB, rSumI, rIsiD, rIsX, tCallS, tMakeS, tMake, tMakeC, tMakeSC, tFld, sFld, HO.ins.injEq, HO.tup.injEq, cxOf_K, nox_K, tr_K, suite_K, rTupleI, rAllB, rAnyB, BL_inj, tChain, wOnly, wAs, wMany, rEqI, rNeI, Dw.rMax2, rMin2, Dw.rIsN, rIsNotN, rStrIn, rStrNotIn, not_true_eq_false, not_false_eq_true, reduceCtorEq, cl_bool, cl_int, cl_str, cl_list, cl_tuple, isB_NoneType_bool, isB_NoneType_int, isB_NoneType_str, isB_NoneType_list, isB_NoneType_tuple, isB_bool_bool, isB_bool_int, isB_bool_str, isB_bool_list, isB_bool_tuple, isB_int_bool, isB_int_int, isB_int_str, isB_int_list, isB_int_tuple, isB_str_bool, isB_str_int, isB_str_str, isB_str_list, isB_str_tuple, isB_list_bool, isB_list_int, isB_list_str, isB_list_list, isB_list_tuple, isB_tuple_bool, isB_tuple_int, isB_tuple_str, isB_tuple_list, isB_tuple_tuple, iEnumT]
    have hR' := s1 _ _ hR
    have hp := folS_period (c := c) (by omega) ns
    have nn := folR_nn (t := rest) (p := (folS c ns).1) ok.2.2.1 (by omega)
    have en : (32 * rest + (folS c ns).1) / (2 * (folS c ns).1) = folR rest (folS c ns).1 := rfl
    unfold FewF at few
    have cd : CDiv (32 * rest + (folS c ns).1) (2 * (folS c ns).1) := ⟨by omega, by omega⟩
    have cmA : ∀ x, CMul 32 x := fun x => .inl ⟨by decide, by decide⟩
    have cmB : ∀ x, CMul 2 x := fun x => .inl ⟨by decide, by decide⟩
    have cl := T.cl_Read
    have na := T.na_Read_rest
    have hl1 : isL (H' l) = true := by rw [e1]; rfl
    try simp only [tSeq, tAsg, tVar, tC, tOp, rI0, rI, tUn, rU, tIfS, tTest, tRet, tRetN, tDrop, tCB, tCons, tNil, tLst, tLstI, tTup, gName, tB, tAnd, tOr, tNot, tAndV, tOrV, tNotV, tIf, tNext, tBreak, tCont, gSub, tCall, tCallN, tAug, ipI, tBML, tBML0, isL_IL, isL_lst, L2.start, List.map_cons, List.map_nil, List.length_cons, List.length_nil, List.cons_append, List.nil_append, List.getElem?_cons_succ, List.getElem?_cons_zero, Option.some.injEq, exists_eq_left', exists_eq_left, exists_and_left, V.int.injEq, V.ref.injEq, V.bl.injEq, V.str.injEq, List.set_cons_zero, List.set_cons_succ, List.cons.injEq, and_true, true_and, Nat.reduceAdd, Nat.reduceSub, List.replicate_succ, List.replicate_zero, rIxI, rIxH, rIxTH, rSetI, rSetH, rCatI, rRepI, rSlI, rAppendI, rExtendI, decide_eq_true_eq, upd_same, IL_inj, HO.lst.injEq, toInts_cons, toInts_nil, Option.map_some, if_true, if_false, Bool.true_eq_false, Bool.false_eq_true, Bool.not_true, Bool.not_false, Bool.not_eq_true', decide_eq_false_iff_not, atI_0, atI_1, atI_2, atI_3, atI_4, Int.reduceToNat, Int.reduceLT, Int.reduceLE, Int.reduceNeg, Int.reducePow, cast_lit, upd_upd, Int.reduceAdd, Int.reduceMul, Int.reduceSub, Nat.reduceLT, Nat.reduceLeDiff, cmul_r, cdiv_r, tSl, tPart, tNoPart, rEq, rNe, scal_nn, scal_ii, scal_bb, scal_ss, scal_is, scal_si, V.ty.injEq, and_assoc, tyH_non, tyH_bl, tyH_int, tyH_str, tyH_ref, tyO_lst, tyO_IL, tyO_tup, itO_lst, itO_tup, itO_IL, Dw.rIxD, rLenI, rLenH, rLenTH, rLenQ, rLenB, rListI, Dw.rListS, rIntI, rIntB, rSumI, rIsiD, rIsX, tCallS, tMakeS, tMake, tMakeC, tMakeSC, tFld, sFld, HO.ins.injEq, HO.tup.injEq, cxOf_K, nox_K, tr_K, suite_K, rTupleI, rAllB, rAnyB, BL_inj, tChain, wOnly, wAs, wMany, rEqI, rNeI, Dw.rMax2, rMin2, Dw.rIsN, rIsNotN, rStrIn, rStrNotIn, not_true_eq_false, not_false_eq_true, reduceCtorEq, cl_bool, cl_int, cl_str, cl_list, cl_tuple, isB_NoneType_bool, isB_NoneType_int, isB_NoneType_str, isB_NoneType_list, isB_NoneType_tuple, isB_bool_bool, isB_bool_int, isB_bool_str, isB_bool_list, isB_bool_tuple, isB_int_bool, isB_int_int, isB_int_str, isB_int_list, isB_int_tuple, isB_str_bool, isB_str_int, isB_str_str, isB_str_list, isB_str_tuple, isB_list_bool, isB_list_int, isB_list_str, isB_list_list, isB_list_tuple, isB_tuple_bool, isB_tuple_int, isB_tuple_str, isB_tuple_list, isB_tuple_tuple, iEnumT, hl1]
    refine ⟨line_le (by decide), fun u hu => ?_⟩
    have hRu := same_new hu (IL [0]) _ _ hR'
    have n1 : l ≠ u := ne_of_none e1 hu
    try simp only [tSeq, tAsg, tVar, tC, tOp, rI0, rI, tUn, rU, tIfS, tTest, tRet, tRetN, tDrop, tCB, tCons, tNil, tLst, tLstI, tTup, gName, tB, tAnd, tOr, tNot, tAndV, tOrV, tNotV, tIf, tNext, tBreak, tCont, gSub, tCall, tCallN, tAug, ipI, tBML, tBML0, isL_IL, isL_lst, L2.start, List.map_cons, List.map_nil, List.length_cons, List.length_nil, List.cons_append, List.nil_append, List.getElem?_cons_succ, List.getElem?_cons_zero, Option.some.injEq, exists_eq_left', exists_eq_left, exists_and_left, V.int.injEq, V.ref.injEq, V.bl.injEq, V.str.injEq, List.set_cons_zero, List.set_cons_succ, List.cons.injEq, and_true, true_and, Nat.reduceAdd, Nat.reduceSub, List.replicate_succ, List.replicate_zero, rIxI, rIxH, rIxTH, rSetI, rSetH, rCatI, rRepI, rSlI, rAppendI, rExtendI, decide_eq_true_eq, upd_same, IL_inj, HO.lst.injEq, toInts_cons, toInts_nil, Option.map_some, if_true, if_false, Bool.true_eq_false, Bool.false_eq_true, Bool.not_true, Bool.not_false, Bool.not_eq_true', decide_eq_false_iff_not, atI_0, atI_1, atI_2, atI_3, atI_4, Int.reduceToNat, Int.reduceLT, Int.reduceLE, Int.reduceNeg, Int.reducePow, cast_lit, upd_upd, Int.reduceAdd, Int.reduceMul, Int.reduceSub, Nat.reduceLT, Nat.reduceLeDiff, cmul_r, cdiv_r, tSl, tPart, tNoPart, rEq, rNe, scal_nn, scal_ii, scal_bb, scal_ss, scal_is, scal_si, V.ty.injEq, and_assoc, tyH_non, tyH_bl, tyH_int, tyH_str, tyH_ref, tyO_lst, tyO_IL, tyO_tup, itO_lst, itO_tup, itO_IL, Dw.rIxD, rLenI, rLenH, rLenTH, rLenQ, rLenB, rListI, Dw.rListS, rIntI, rIntB, rSumI, rIsiD, rIsX, tCallS, tMakeS, tMake, tMakeC, tMakeSC, tFld, sFld, HO.ins.injEq, HO.tup.injEq, cxOf_K, nox_K, tr_K, suite_K, rTupleI, rAllB, rAnyB, BL_inj, tChain, wOnly, wAs, wMany, rEqI, rNeI, Dw.rMax2, rMin2, Dw.rIsN, rIsNotN, rStrIn, rStrNotIn, not_true_eq_false, not_false_eq_true, reduceCtorEq, cl_bool, cl_int, cl_str, cl_list, cl_tuple, isB_NoneType_bool, isB_NoneType_int, isB_NoneType_str, isB_NoneType_list, isB_NoneType_tuple, isB_bool_bool, isB_bool_int, isB_bool_str, isB_bool_list, isB_bool_tuple, isB_int_bool, isB_int_int, isB_int_str, isB_int_list, isB_int_tuple, isB_str_bool, isB_str_int, isB_str_str, isB_str_list, isB_str_tuple, isB_list_bool, isB_list_int, isB_list_str, isB_list_list, isB_list_tuple, isB_tuple_bool, isB_tuple_int, isB_tuple_str, isB_tuple_list, isB_tuple_tuple, iEnumT, hRu, cl, na, rf_rest, cmA, cmB, cd, en]
    refine ⟨by omega, by omega, line_le (by show 1 * _ ≤ _; omega), fun u2 hu2 => ?_⟩
    have hu2' : H' u2 = none := same_none (same_new hu _) hu2
    have n2 : l ≠ u2 := ne_of_none e1 hu2'
    try simp only [tSeq, tAsg, tVar, tC, tOp, rI0, rI, tUn, rU, tIfS, tTest, tRet, tRetN, tDrop, tCB, tCons, tNil, tLst, tLstI, tTup, gName, tB, tAnd, tOr, tNot, tAndV, tOrV, tNotV, tIf, tNext, tBreak, tCont, gSub, tCall, tCallN, tAug, ipI, tBML, tBML0, isL_IL, isL_lst, L2.start, List.map_cons, List.map_nil, List.length_cons, List.length_nil, List.cons_append, List.nil_append, List.getElem?_cons_succ, List.getElem?_cons_zero, Option.some.injEq, exists_eq_left', exists_eq_left, exists_and_left, V.int.injEq, V.ref.injEq, V.bl.injEq, V.str.injEq, List.set_cons_zero, List.set_cons_succ, List.cons.injEq, and_true, true_and, Nat.reduceAdd, Nat.reduceSub, List.replicate_succ, List.replicate_zero, rIxI, rIxH, rIxTH, rSetI, rSetH, rCatI, rRepI, rSlI, rAppendI, rExtendI, decide_eq_true_eq, upd_same, IL_inj, HO.lst.injEq, toInts_cons, toInts_nil, Option.map_some, if_true, if_false, Bool.true_eq_false, Bool.false_eq_true, Bool.not_true, Bool.not_false, Bool.not_eq_true', decide_eq_false_iff_not, atI_0, atI_1, atI_2, atI_3, atI_4, Int.reduceToNat, Int.reduceLT, Int.reduceLE, Int.reduceNeg, Int.reducePow, cast_lit, upd_upd, Int.reduceAdd, Int.reduceMul, Int.reduceSub, Nat.reduceLT, Nat.reduceLeDiff, cmul_r, cdiv_r, tSl, tPart, tNoPart, rEq, rNe, scal_nn, scal_ii, scal_bb, scal_ss, scal_is, scal_si, V.ty.injEq, and_assoc, tyH_non, tyH_bl, tyH_int, tyH_str, tyH_ref, tyO_lst, tyO_IL, tyO_tup, itO_lst, itO_tup, itO_IL, Dw.rIxD, rLenI, rLenH, rLenTH, rLenQ, rLenB, rListI, Dw.rListS, rIntI, rIntB, rSumI, rIsiD, rIsX, tCallS, tMakeS, tMake, tMakeC, tMakeSC, tFld, sFld, HO.ins.injEq, HO.tup.injEq, cxOf_K, nox_K, tr_K, suite_K, rTupleI, rAllB, rAnyB, BL_inj, tChain, wOnly, wAs, wMany, rEqI, rNeI, Dw.rMax2, rMin2, Dw.rIsN, rIsNotN, rStrIn, rStrNotIn, not_true_eq_false, not_false_eq_true, reduceCtorEq, cl_bool, cl_int, cl_str, cl_list, cl_tuple, isB_NoneType_bool, isB_NoneType_int, isB_NoneType_str, isB_NoneType_list, isB_NoneType_tuple, isB_bool_bool, isB_bool_int, isB_bool_str, isB_bool_list, isB_bool_tuple, isB_int_bool, isB_int_int, isB_int_str, isB_int_list, isB_int_tuple, isB_str_bool, isB_str_int, isB_str_str, isB_str_list, isB_str_tuple, isB_list_bool, isB_list_int, isB_list_str, isB_list_list, isB_list_tuple, isB_tuple_bool, isB_tuple_int, isB_tuple_str, isB_tuple_list, isB_tuple_tuple, iEnumT, upd_ne n1, upd_ne n2, e1, rep_zero]
    refine ⟨?_, k1 l _ (fun b o hb => ?_) hl0 ?_⟩
    · rw [List.length_replicate]
      exact line_le (by omega)
    · rw [upd_ne (ne_of_none hb hl0)]
      exact same_new hu2 _ _ _ (same_new hu _ _ _ (s1 _ _ hb))
    · rw [upd_same]
      rfl
end
section
variable {P : Program} {w : World} {K : PySem.W.Frag} {mg : Str → Option Value} {base : Heap} {A : Ad}
theorem scl_nn {t p q : Int} (ht : 0 ≤ t) (hp : okPart p) (hq : okPart q) : 0 ≤ scl t p q := by
  obtain ⟨p1, p2⟩ := hp
  obtain ⟨q1, q2⟩ := hq
  have : 0 ≤ 2 * t * p := Int.mul_nonneg (by omega) (by omega)
  exact Int.ediv_nonneg (by omega) (by omega)
theorem map_range {g : Int → Int} {ns : List Int} : (List.range ns.length).map (fun i => g (ns.getD i 0)) = ns.map g := by
  apply List.ext_getElem
  · rw [List.length_map, List.length_map, List.length_range]
  · intro i h1 h2
    rw [List.length_map] at h2
    simp [List.getD_eq_getElem?_getD, List.getElem?_eq_getElem h2]
def spScaled : Sp := fun vs H Q _ => ∃ t p q : Int, vs = [.int t, .int p, .int q] ∧ (0 ≤ t ∧ t ≤ 1000000) ∧ okPart p ∧ okPart q ∧ Q (.int (scl t p q)) H
theorem ok_scaled (T : Tx K mg A) : FnOk P w K mg base CX0 1 A.f_scaled A.d_scaled ["ticks", "p", "q"] spScaled := by
  refine T.F_scaled.ok sc_scaled (fun vs H Q E h => ?_) (fun cdv A' outer s H vs Q E hr h => ?_)
  · obtain ⟨t, p, q, rfl, _⟩ := h
    rfl
  obtain ⟨t, p, q, rfl, ⟨t0, t1⟩, ⟨p0, p1⟩, ⟨q0, q1⟩, k⟩ := h
  refine ⟨_, (pss_one (ps_ret (pe_op op_fdiv (pe_op op_add (pe_op op_mul (pe_op op_mul pe_int (pv 0)) (pv 1)) (pv 2)) (pe_op op_mul pe_int (pv 2))))), ?_⟩
  have h1 : 2 * t * p ≤ 2000000 * 1000 := Int.mul_le_mul (by omega) p1 (by omega) (by omega)
  have h0 : 0 ≤ 2 * t * p := Int.mul_nonneg (by omega) (by omega)
  have cm1 : CMul 2 t := .inl ⟨by decide, by decide⟩
  have cm2 : CMul (2 * t) p := .inl ⟨by omega, by omega⟩
  have cm3 : CMul 2 q := .inl ⟨by decide, by decide⟩
  have cd : CDiv (2 * t * p + q) (2 * q) := ⟨by omega, by omega⟩
  try simp only [tSeq, tAsg, tVar, tC, tOp, rI0, rI, tUn, rU, tIfS, tTest, tRet, tRetN, tDrop, tCB, tCons, tNil, tLst, tLstI, tTup, gName, tB, tAnd, tOr, tNot, tAndV, tOrV, tNotV, tIf, tNext, tBreak, tCont, gSub, tCall, tCallN, tAug, ipI, tBML, tBML0, isL_IL, isL_lst, L2.start, List.map_cons, List.map_nil, List.length_cons, List.length_nil, List.cons_append, List.nil_append, List.getElem?_cons_succ, List.getElem?_cons_zero, Option.some.injEq, exists_eq_left', exists_eq_left, exists_and_left, V.int.injEq, V.ref.injEq, V.bl.injEq, V.str.injEq, List.set_cons_zero, List.set_cons_succ, List.cons.injEq, and_true, true_and, Nat.reduceAdd, Nat.reduceSub, List.replicate_succ, List.replicate_zero, rIxI, rIxH, rIxTH, rSetI, rSetH, rCatI, rRepI, rSlI, rAppendI, rExtendI, decide_eq_true_eq, upd_same, IL_inj, HO.lst.injEq, toInts_cons, toInts_nil, Option.map_some, if_true, if_false, Bool.true_eq_false, Bool.false_eq_true, Bool.not_true, Bool.not_false, Bool.not_eq_true', decide_eq_false_iff_not, atI_0, atI_1, atI_2, atI_3, atI_4, Int.reduceToNat, Int.reduceLT, Int.reduceLE, Int.reduceNeg, Int.reducePow, cast_lit, upd_upd, Int.reduceAdd, Int.reduceMul, Int.reduceSub, Nat.reduceLT, Nat.reduceLeDiff, cmul_r, cdiv_r, tSl, tPart, tNoPart, rEq, rNe, scal_nn, scal_ii, scal_bb, scal_ss, scal_is, scal_si, V.ty.injEq, and_assoc, tyH_non, tyH_bl, tyH_int, tyH_str, tyH_ref, tyO_lst, tyO_IL, tyO_tup, itO_lst, itO_tup, itO_IL, Dw.rIxD, rLenI, rLenH, rLenTH, rLenQ, rLenB, rListI, Dw.rListS, rIntI, rIntB, rSumI, rIsiD, rIsX, tCallS, tMakeS, tMake, tMakeC, tMakeSC, tFld, sFld, HO.ins.injEq, HO.tup.injEq, cxOf_K, nox_K, tr_K, suite_K, rTupleI, rAllB, rAnyB, BL_inj, tChain, wOnly, wAs, wMany, rEqI, rNeI, Dw.rMax2, rMin2, Dw.rIsN, rIsNotN, rStrIn, rStrNotIn, not_true_eq_false, not_false_eq_true, reduceCtorEq, cl_bool, cl_int, cl_str, cl_list, cl_tuple, isB_NoneType_bool, isB_NoneType_int, isB_NoneType_str, isB_NoneType_list, isB_NoneType_tuple, isB_bool_bool, isB_bool_int, isB_bool_str, isB_bool_list, isB_bool_tuple, isB_int_bool, isB_int_int, isB_int_str, isB_int_list, isB_int_tuple, isB_str_bool, isB_str_int, isB_str_str, isB_str_list, isB_str_tuple, isB_list_bool, isB_list_int, isB_list_str, isB_list_list, isB_list_tuple, isB_tuple_bool, isB_tuple_int, isB_tuple_str, isB_tuple_list, isB_tuple_tuple, rSlCI, iRng3, iRev, gCons, gNil, iZip, iEnum, tLc_eq, tFor_eq, iRng1, iRng2, iList, iTup, rSetD, iKeys, tDNewK, Int.reducePow, Int.reduceNeg, iEnumT, cm1, cm2, cm3, cd]
  exact k
def spSpeed (C CE : Addr) : Sp := fun vs H Q E => ∃ (r : Addr) (p q : Int) (ns : List Int) (rest : Int), vs = [.ref r, .int p, .int q] ∧ RdAt C H r ns rest ∧ OkRead ns rest ∧
  (okPart p → okPart q → OkRead (ns.map fun t => max 1 (scl t p q)) (scl rest p q) → ∀ r2 H', Same H H' → H r2 = none → RdAt C H' r2 (ns.map fun t => max 1 (scl t p q)) (scl rest p q) → Q (.ref r2) H') ∧
  (okPart p → okPart q → ¬ OkRead (ns.map fun t => max 1 (scl t p q)) (scl rest p q) → ∀ H', Same H H' → E (.ref CE) none H') ∧
  (¬ (okPart p ∧ okPart q) → E (.ref CE) none H)
theorem ok_at_speed (T : Tx K mg A) : FnOk P w K mg base (L2.CX P w) 3 A.f_at_speed A.d_at_speed ["read", "p", "q"] (spSpeed A.c_Read A.c_InvalidRead) := by
  refine T.F_at_speed.okX sc_at_speed (fun vs H Q E h => ?_) (fun cdv A' outer s H vs Q E hr h => ?_)
  · obtain ⟨r, p, q, ns, rest, rfl, _⟩ := h
    rfl
  obtain ⟨r, p, q, ns, rest, rfl, ⟨dx, t, hR, hT⟩, ok, k1, k2, k3⟩ := h
  refine ⟨_, (pss_cons (ps_if (PW.pt (pw_or (pt_not (pt_chain op_le op_le pe_int (pv 1) (pe_glob rfl T.c_GREATEST_PART T.r_GREATEST_PART))) (pw_or1 (pt_not (pt_chain op_le op_le pe_int (pv 2) (pe_glob rfl T.c_GREATEST_PART T.r_GREATEST_PART)))))) (pss_one (ps_raise rfl (takes_of rfl rfl rfl rfl) (pmk_own PySem.F.excBase_ValueError T.x_InvalidRead.x T.x_InvalidRead.g T.x_InvalidRead.k (raises_own T.x_InvalidRead.b T.x_InvalidRead.t) rfl))) pss_nil)
      (pss_cons (ps_setLc (i := 3) (own := [("ticks", 4)]) (g := (gName 4)) (tt := tYes) rfl sc_at_speed.nd rfl rfl (sw_true rfl rfl rfl (by decide +kernel)) (pi_tup (pe_fld (pv 0) rfl)) (blkOk_by (N := n_at_speed) (sc := (defScope s_at_speed)) (by decide +kernel)) (fun _ _ _ _ _ => (pg_name (i := 4) sc_at_speed.nd rfl (Or.inl rfl))) (fun _ _ _ _ _ => pts_nil) (fun _ _ _ _ _ => (pe_callB (call_maxI rfl) (by rfl) T.z_max (by decide +kernel) (pa_cons pe_int (pa_cons (pe_call (ok_scaled T) (hr.mono (by decide)) rfl T.g_scaled T.F_scaled.kp T.b_scaled .nil pass0 (pa_cons (pv 4) (pa_cons (pv 1) (pa_cons (pv 2) pa_nil)))) pa_nil)))))
      (pss_one (ps_ret (pe_makeC conv_read T.mk_Read (ok_Readinit T) (hr.mono (by decide)) rfl T.gc_Read T.b_Readinit (passW (takes_of rfl rfl rfl rfl) (fun _ _ _ _ h => h)) (pa_cons (pv 3) (pa_cons (pe_call (ok_scaled T) (hr.mono (by decide)) rfl T.g_scaled T.F_scaled.kp T.b_scaled .nil pass0 (pa_cons (pe_fld (pv 0) rfl) (pa_cons (pv 1) (pa_cons (pv 2) pa_nil)))) pa_nil))))))), ?_⟩
  try simp only [tSeq, tAsg, tVar, tC, tOp, rI0, rI, tUn, rU, tIfS, tTest, tRet, tRetN, tDrop, tCB, tCons, tNil, tLst, tLstI, tTup, gName, tB, tAnd, tOr, tNot, tAndV, tOrV, tNotV, tIf, tNext, tBreak, tCont, gSub, tCall, tCallN, tAug, ipI, tBML, tBML0, isL_IL, isL_lst, L2.start, List.map_cons, List.map_nil, List.length_cons, List.length_nil, List.cons_append, List.nil_append, List.getElem?_cons_succ, List.getElem?_cons_zero, Option.some.injEq, exists_eq_left', exists_eq_left, exists_and_left, V.int.injEq, V.ref.injEq, V.bl.injEq, V.str.injEq, List.set_cons_zero, List.set_cons_succ, List.cons.injEq, and_true, true_and, Nat.reduceAdd, Nat.reduceSub, List.replicate_succ, List.replicate_zero, rIxI, rIxH, rIxTH, rSetI, rSetH, rCatI, rRepI, rSlI, rAppendI, rExtendI, decide_eq_true_eq, upd_same, IL_inj, HO.lst.injEq, toInts_cons, toInts_nil, Option.map_some, if_true, if_false, Bool.true_eq_false, Bool.false_eq_true, Bool.not_true, Bool.not_false, Bool.not_eq_true', decide_eq_false_iff_not, atI_0, atI_1, atI_2, atI_3, atI_4, Int.reduceToNat, Int.reduceLT, Int.reduceLE, Int.reduceNeg, Int.reducePow, cast_lit, upd_upd, Int.reduceAdd, Int.reduceMul, Int.reduceSub, Nat.reduceLT, Nat.reduceLeDiff, cmul_r, cdiv_r, tSl, tPart, tNoPart, rEq, rNe, scal_nn, scal_ii, scal_bb, scal_ss, scal_is, scal_si, V.ty.injEq, and_assoc, tyH_non, tyH_bl, tyH_int, tyH_str, tyH_ref, tyO_lst, tyO_IL, tyO_tup, itO_lst, itO_tup, itO_IL, Dw.rIxD, rLenI, rLenH, rLenTH, rLenQ, rLenB, rListI, Dw.rListS, rIntI, rIntB, rSumI, rIsiD, rIsX, tCallS, tMakeS, tMake, tMakeC, tMakeSC, tFld, sFld, HO.ins.injEq, HO.tup.injEq, cxOf_K, nox_K, tr_K, suite_K, rTupleI, rAllB, rAnyB, BL_inj, tChain, wOnly, wAs, wMany, rEqI, rNeI, Dw.rMax2, rMin2, Dw.rIsN, rIsNotN, rStrIn, rStrNotIn, not_true_eq_false, not_false_eq_true, reduceCtorEq, cl_bool, cl_int, cl_str, cl_list, cl_tuple, isB_NoneType_bool, isB_NoneType_int, isB_NoneType_str, isB_NoneType_list, isB_NoneType_tuple, isB_bool_bool, isB_bool_int, isB_bool_str, isB_bool_list, isB_bool_tuple, isB_int_bool, isB_int_int, isB_int_str, isB_int_list, isB_int_tuple, isB_str_bool, isB_str_int, isB_str_str, isB_str_list, isB_str_tuple, isB_list_bool, isB_list_int, isB_list_str, isB_list_list, isB_list_tuple, isB_tuple_bool, isB_tuple_int, isB_tuple_str, isB_tuple_list, isB_tuple_tuple, rSlCI, iRng3, iRev, gCons, gNil, iZip, iEnum, tLc_eq, tFor_eq, iRng1, iRng2, iList, iTup, rSetD, iKeys, tDNewK, Int.reducePow, Int.reduceNeg, iEnumT]
  by_cases c1 : ¬ (okPart p ∧ okPart q)
  · have k3 := k3 c1
    unfold okPart at c1
    repeat' split
    all_goals first | exact k3 | (exfalso; omega)
  have c1 := Classical.not_not.mp c1
  obtain ⟨⟨p0, p1⟩, ⟨q0, q1⟩⟩ := id c1
  rw [if_pos p0, if_neg (by omega), if_pos q0, if_neg (by omega)]
  refine ⟨_, dx, _, hR, T.cl_Read, T.na_Read_intervals, _, rf_int t rest, t, rfl, ⟨_, .of hT⟩, fun D hD => ?_⟩
  refine lc_tupI (K := K) (a := t) (xs := ns.map V.int) (f := fun i => max 1 (scl (ns.getD i 0) p q)) (by rw [List.length_map]; have := ok.1; omega) (.of hT) hD (fun _ => rfl) ?_ fun H1 s1 e1 => ?_
  · intro i v H3 Q' hi s3 hq
    obtain ⟨z, rfl, hz⟩ := ints_at hi
    have ez : ns.getD i 0 = z := by rw [List.getD_eq_getElem?_getD, hz]; rfl
    rw [ez] at hq
    have zr := ok.2.1 z (List.mem_of_getElem? hz)
    try simp only [tSeq, tAsg, tVar, tC, tOp, rI0, rI, tUn, rU, tIfS, tTest, tRet, tRetN, tDrop, tCB, tCons, tNil, tLst, tLstI, tTup, gName, tB, tAnd, tOr, tNot, tAndV, tOrV, tNotV, tIf, tNext, tBreak, tCont, gSub, tCall, tCallN, tAug, ipI, tBML, tBML0, isL_IL, isL_lst, L2.start, List.map_cons, List.map_nil, List.length_cons, List.length_nil, List.cons_append, List.nil_append, List.getElem?_cons_succ, List.getElem?_cons_zero, Option.some.injEq, exists_eq_left', exists_eq_left, exists_and_left, V.int.injEq, V.ref.injEq, V.bl.injEq, V.str.injEq, List.set_cons_zero, List.set_cons_succ, List.cons.injEq, and_true, true_and, Nat.reduceAdd, Nat.reduceSub, List.replicate_succ, List.replicate_zero, rIxI, rIxH, rIxTH, rSetI, rSetH, rCatI, rRepI, rSlI, rAppendI, rExtendI, decide_eq_true_eq, upd_same, IL_inj, HO.lst.injEq, toInts_cons, toInts_nil, Option.map_some, if_true, if_false, Bool.true_eq_false, Bool.false_eq_true, Bool.not_true, Bool.not_false, Bool.not_eq_true', decide_eq_false_iff_not, atI_0, atI_1, atI_2, atI_3, atI_4, Int.reduceToNat, Int.reduceLT, Int.reduceLE, Int.reduceNeg, Int.reducePow, cast_lit, upd_upd, Int.reduceAdd, Int.reduceMul, Int.reduceSub, Nat.reduceLT, Nat.reduceLeDiff, cmul_r, cdiv_r, tSl, tPart, tNoPart, rEq, rNe, scal_nn, scal_ii, scal_bb, scal_ss, scal_is, scal_si, V.ty.injEq, and_assoc, tyH_non, tyH_bl, tyH_int, tyH_str, tyH_ref, tyO_lst, tyO_IL, tyO_tup, itO_lst, itO_tup, itO_IL, Dw.rIxD, rLenI, rLenH, rLenTH, rLenQ, rLenB, rListI, Dw.rListS, rIntI, rIntB, rSumI, rIsiD, rIsX, tCallS, tMakeS, tMake, tMakeC, tMakeSC, tFld, sFld, HO.ins.injEq, HO.tup.injEq, cxOf_K, nox_K, tr_K, suite_K, rTupleI, rAllB, rAnyB, BL_inj, tChain, wOnly, wAs, wMany, rEqI, rNeI, Dw.rMax2, rMin2, Dw.rIsN, rIsNotN, rStrIn, rStrNotIn, not_true_eq_false, not_false_eq_true, reduceCtorEq, cl_bool, cl_int, cl_str, cl_list, cl_tuple, isB_NoneType_bool, isB_NoneType_int, isB_NoneType_str, isB_NoneType_list, isB_NoneType_tuple, isB_bool_bool, isB_bool_int, isB_bool_str, isB_bool_list, isB_bool_tuple, isB_int_bool, isB_int_int, isB_int_str, isB_int_list, isB_int_tuple, isB_str_bool, isB_str_int, isB_str_str, isB_str_list, isB_str_tuple, isB_list_bool, isB_list_int, isB_list_str, isB_list_list, isB_list_tuple, isB_tuple_bool, isB_tuple_int, isB_tuple_str, isB_tuple_list, isB_tuple_tuple, rSlCI, iRng3, iRev, gCons, gNil, iZip, iEnum, tLc_eq, tFor_eq, iRng1, iRng2, iList, iTup, rSetD, iKeys, tDNewK, Int.reducePow, Int.reduceNeg, iEnumT, wipe]
    exact ⟨z, p, q, rfl, ⟨by omega, by omega⟩, c1.1, c1.2, _, rfl, hq _ (.refl _)⟩
  rw [List.length_map, map_range (g := fun z => max 1 (scl z p q))] at e1
  refine ⟨_, dx, _, s1 _ _ hR, T.cl_Read, T.na_Read_rest, _, rf_rest t rest, rest, p, q, rfl, ⟨ok.2.2.1, ok.2.2.2⟩, c1.1, c1.2, D, _, _, rfl, e1, fun ok2 r2 H2 s2 n2 hrd => k1 c1.1 c1.2 ok2 r2 H2 (s1.trans s2) (same_none s1 n2) hrd, fun no H2 s2 => k2 c1.1 c1.2 no H2 (s1.trans s2)⟩
end
section
variable {P : Program} {w : World} {K : PySem.W.Frag} {mg : Str → Option Value} {base : Heap} {A : Ad}
def jitZ (ns as : List Int) : List Int := (List.range ns.length).map fun i => ns.getD i 0 + as.getD (i % as.length) 0
def spJit (C CE : Addr) : Sp := fun vs H Q E => ∃ (r a : Addr) (ns as : List Int) (rest : Int), vs = [.ref r, .ref a] ∧ RdAt C H r ns rest ∧ OkRead ns rest ∧ H a = some (IL as) ∧ 0 < as.length ∧ as.length ≤ 1000 ∧
  (OkRead (jitZ ns as) rest → ∀ r2 H', Same H H' → H r2 = none → RdAt C H' r2 (jitZ ns as) rest → Q (.ref r2) H') ∧ (¬ OkRead (jitZ ns as) rest → ∀ H', Same H H' → E (.ref CE) none H')
theorem ok_jittered (T : Tx K mg A) : FnOk P w K mg base (L2.CX P w) 3 A.f_jittered A.d_jittered ["read", "amounts"] (spJit A.c_Read A.c_InvalidRead) := by
  refine T.F_jittered.okX sc_jittered (fun vs H Q E h => ?_) (fun cdv A' outer s H vs Q E hr h => ?_)
  · obtain ⟨r, a, ns, as, rest, rfl, _⟩ := h
    rfl
  obtain ⟨r, a, ns, as, rest, rfl, ⟨dx, t, hR, hT⟩, ok, hA, ha0, ha1, k1, k2⟩ := h
  refine ⟨_, (pss_cons (ps_setLc (i := 2) (own := [("at", 3), ("ticks", 4)]) (g := (gTup K 2 (gCons (gName 3) (gCons (gName 4) gNil)))) (tt := tYes) rfl sc_jittered.nd rfl rfl (sw_true rfl rfl rfl (by decide +kernel)) (pi_enumT (by rfl) T.z_enumerate (pa_cons (pe_fld (pv 0) rfl) pa_nil)) (blkOk_by (N := n_jittered) (sc := (defScope s_jittered)) (by decide +kernel)) (fun _ _ _ _ _ => (pg_tup (n := 2) rfl (pgs_cons (pg_name (i := 3) sc_jittered.nd rfl (Or.inl rfl)) (pgs_cons (pg_name (i := 4) sc_jittered.nd rfl (Or.inl rfl)) pgs_nil)))) (fun _ _ _ _ _ => pts_nil) (fun _ _ _ _ _ => (pe_op op_add (pv 4) (pe_ix ix_listI (pv 1) (pe_op op_mod (pv 3) (pe_callB call_lenI (by rfl) T.z_len (by decide +kernel) (pa_cons (pv 1) pa_nil))) (fun _ _ => rfl)))))
      (pss_one (ps_ret (pe_makeC conv_read T.mk_Read (ok_Readinit T) (hr.mono (by decide)) rfl T.gc_Read T.b_Readinit (passW (takes_of rfl rfl rfl rfl) (fun _ _ _ _ h => h)) (pa_cons (pv 2) (pa_cons (pe_fld (pv 0) rfl) pa_nil)))))), ?_⟩
  try simp only [tSeq, tAsg, tVar, tC, tOp, rI0, rI, tUn, rU, tIfS, tTest, tRet, tRetN, tDrop, tCB, tCons, tNil, tLst, tLstI, tTup, gName, tB, tAnd, tOr, tNot, tAndV, tOrV, tNotV, tIf, tNext, tBreak, tCont, gSub, tCall, tCallN, tAug, ipI, tBML, tBML0, isL_IL, isL_lst, L2.start, List.map_cons, List.map_nil, List.length_cons, List.length_nil, List.cons_append, List.nil_append, List.getElem?_cons_succ, List.getElem?_cons_zero, Option.some.injEq, exists_eq_left', exists_eq_left, exists_and_left, V.int.injEq, V.ref.injEq, V.bl.injEq, V.str.injEq, List.set_cons_zero, List.set_cons_succ, List.cons.injEq, and_true, true_and, Nat.reduceAdd, Nat.reduceSub, List.replicate_succ, List.replicate_zero, rIxI, rIxH, rIxTH, rSetI, rSetH, rCatI, rRepI, rSlI, rAppendI, rExtendI, decide_eq_true_eq, upd_same, IL_inj, HO.lst.injEq, toInts_cons, toInts_nil, Option.map_some, if_true, if_false, Bool.true_eq_false, Bool.false_eq_true, Bool.not_true, Bool.not_false, Bool.not_eq_true', decide_eq_false_iff_not, atI_0, atI_1, atI_2, atI_3, atI_4, Int.reduceToNat, Int.reduceLT, Int.reduceLE, Int.reduceNeg, Int.reducePow, cast_lit, upd_upd, Int.reduceAdd, Int.reduceMul, Int.reduceSub, Nat.reduceLT, Nat.reduceLeDiff, cmul_r, cdiv_r, tSl, tPart, tNoPart, rEq, rNe, scal_nn, scal_ii, scal_bb, scal_ss, scal_is, scal_si, V.ty.injEq, and_assoc, tyH_non, tyH_bl, tyH_int, tyH_str, tyH_ref, tyO_lst, tyO_IL, tyO_tup, itO_lst, itO_tup, itO_IL, Dw.rIxD, rLenI, rLenH, rLenTH, rLenQ, rLenB, rListI, Dw.rListS, rIntI, rIntB, rSumI, rIsiD, rIsX, tCallS, tMakeS, tMake, tMakeC, tMakeSC, tFld, sFld, HO.ins.injEq, HO.tup.injEq, cxOf_K, nox_K, tr_K, suite_K, rTupleI, rAllB, rAnyB, BL_inj, tChain, wOnly, wAs, wMany, rEqI, rNeI, Dw.rMax2, rMin2, Dw.rIsN, rIsNotN, rStrIn, rStrNotIn, not_true_eq_false, not_false_eq_true, reduceCtorEq, cl_bool, cl_int, cl_str, cl_list, cl_tuple, isB_NoneType_bool, isB_NoneType_int, isB_NoneType_str, isB_NoneType_list, isB_NoneType_tuple, isB_bool_bool, isB_bool_int, isB_bool_str, isB_bool_list, isB_bool_tuple, isB_int_bool, isB_int_int, isB_int_str, isB_int_list, isB_int_tuple, isB_str_bool, isB_str_int, isB_str_str, isB_str_list, isB_str_tuple, isB_list_bool, isB_list_int, isB_list_str, isB_list_list, isB_list_tuple, isB_tuple_bool, isB_tuple_int, isB_tuple_str, isB_tuple_list, isB_tuple_tuple, rSlCI, iRng3, iRev, gCons, gNil, iZip, iEnum, tLc_eq, tFor_eq, iRng1, iRng2, iList, iTup, rSetD, iKeys, tDNewK, Int.reducePow, Int.reduceNeg, iEnumT]
  have hpos : (0 : Int) < (as.length : Int) := by omega
  have hnl := ok.1
  refine ⟨_, dx, _, hR, T.cl_Read, T.na_Read_intervals, _, rf_int t rest, t, rfl, _, .of hT, fun D hD => ?_⟩
  refine lc_it (walk_enumT (K := K) (a := t) (xs := ns.map V.int)) (fun i H' => Same H H' ∧ H' D = some (IL ((List.range i).map fun i => ns.getD i 0 + as.getD (i % as.length) 0))) ⟨same_new hD _, upd_same⟩ (fun i H' _ h => .of (h.1 _ _ hT)) ?_ ?_
  · intro i x H2 H3 hi h hy
    rw [List.length_map] at hi
    obtain ⟨h1, h2⟩ := h
    obtain ⟨tt, x, y, rfl, nt, rfl, ex, ey⟩ := hy
    cases ex
    obtain ⟨y, rfl, fy⟩ := ints_at ey
    have sT := same_new nt (.tup [V.int (i : Int), V.int y])
    have hA3 := (h1.trans sT) _ _ hA
    have h23 := sT _ _ h2
    have et : ((i : Int) % (as.length : Int)).toNat = i % as.length := by rw [← Int.natCast_emod]; exact Int.toNat_natCast _
    have hm0 : 0 ≤ (i : Int) % (as.length : Int) := Int.emod_nonneg _ (by omega)
    have hm1 : (i : Int) % (as.length : Int) < (as.length : Int) := Int.emod_lt_of_pos _ hpos
    have ez : ns.getD i 0 = y := by rw [List.getD_eq_getElem?_getD, fy]; rfl
    refine ⟨tt, _, rfl, .of upd_same, rfl, V.int (i : Nat), [V.int y], rfl, V.int y, [], rfl, rfl, rfl, ?_⟩
    simp only [tYes, if_true]
    try simp only [tSeq, tAsg, tVar, tC, tOp, rI0, rI, tUn, rU, tIfS, tTest, tRet, tRetN, tDrop, tCB, tCons, tNil, tLst, tLstI, tTup, gName, tB, tAnd, tOr, tNot, tAndV, tOrV, tNotV, tIf, tNext, tBreak, tCont, gSub, tCall, tCallN, tAug, ipI, tBML, tBML0, isL_IL, isL_lst, L2.start, List.map_cons, List.map_nil, List.length_cons, List.length_nil, List.cons_append, List.nil_append, List.getElem?_cons_succ, List.getElem?_cons_zero, Option.some.injEq, exists_eq_left', exists_eq_left, exists_and_left, V.int.injEq, V.ref.injEq, V.bl.injEq, V.str.injEq, List.set_cons_zero, List.set_cons_succ, List.cons.injEq, and_true, true_and, Nat.reduceAdd, Nat.reduceSub, List.replicate_succ, List.replicate_zero, rIxI, rIxH, rIxTH, rSetI, rSetH, rCatI, rRepI, rSlI, rAppendI, rExtendI, decide_eq_true_eq, upd_same, IL_inj, HO.lst.injEq, toInts_cons, toInts_nil, Option.map_some, if_true, if_false, Bool.true_eq_false, Bool.false_eq_true, Bool.not_true, Bool.not_false, Bool.not_eq_true', decide_eq_false_iff_not, atI_0, atI_1, atI_2, atI_3, atI_4, Int.reduceToNat, Int.reduceLT, Int.reduceLE, Int.reduceNeg, Int.reducePow, cast_lit, upd_upd, Int.reduceAdd, Int.reduceMul, Int.reduceSub, Nat.reduceLT, Nat.reduceLeDiff, cmul_r, cdiv_r, tSl, tPart, tNoPart, rEq, rNe, scal_nn, scal_ii, scal_bb, scal_ss, scal_is, scal_si, V.ty.injEq, and_assoc, tyH_non, tyH_bl, tyH_int, tyH_str, tyH_ref, tyO_lst, tyO_IL, tyO_tup, itO_lst, itO_tup, itO_IL, Dw.rIxD, rLenI, rLenH, rLenTH, rLenQ, rLenB, rListI, Dw.rListS, rIntI, rIntB, rSumI, rIsiD, rIsX, tCallS, tMakeS, tMake, tMakeC, tMakeSC, tFld, sFld, HO.ins.injEq, HO.tup.injEq, cxOf_K, nox_K, tr_K, suite_K, rTupleI, rAllB, rAnyB, BL_inj, tChain, wOnly, wAs, wMany, rEqI, rNeI, Dw.rMax2, rMin2, Dw.rIsN, rIsNotN, rStrIn, rStrNotIn, not_true_eq_false, not_false_eq_true, reduceCtorEq, cl_bool, cl_int, cl_str, cl_list, cl_tuple, isB_NoneType_bool, isB_NoneType_int, isB_NoneType_str, isB_NoneType_list, isB_NoneType_tuple, isB_bool_bool, isB_bool_int, isB_bool_str, isB_bool_list, isB_bool_tuple, isB_int_bool, isB_int_int, isB_int_str, isB_int_list, isB_int_tuple, isB_str_bool, isB_str_int, isB_str_str, isB_str_list, isB_str_tuple, isB_list_bool, isB_list_int, isB_list_str, isB_list_list, isB_list_tuple, isB_tuple_bool, isB_tuple_int, isB_tuple_str, isB_tuple_list, isB_tuple_tuple, rSlCI, iRng3, iRev, gCons, gNil, iZip, iEnum, tLc_eq, tFor_eq, iRng1, iRng2, iList, iTup, rSetD, iKeys, tDNewK, Int.reducePow, Int.reduceNeg, iEnumT, wipe, hA3, hpos, et]
    refine ⟨hm0, hm1, _, h23, by rw [List.length_map, List.length_map, List.length_range]; exact line_lt (by omega), fun b o hb => ?_, ?_⟩
    · rw [upd_ne (ne_of_none hb hD)]
      exact sT _ _ (h1 b o hb)
    · unfold IL
      rw [List.range_succ, List.map_append, List.map_append]
      simp only [List.map_cons, List.map_nil, ez]
  · intro H1 h
    obtain ⟨s1, e1⟩ := h
    rw [List.length_map] at e1
    exact ⟨_, dx, _, s1 _ _ hR, T.cl_Read, T.na_Read_rest, _, rf_rest t rest, D, _, _, rfl, e1, fun okr r2 H2 s2 n2 hrd => k1 okr r2 H2 (s1.trans s2) (same_none s1 n2) hrd, fun no H2 s2 => k2 no H2 (s1.trans s2)⟩
end
section
variable {P : Program} {w : World} {K : PySem.W.Frag} {mg : Str → Option Value} {base : Heap} {A : Ad}
def spLaw (K : PySem.W.Frag) : Sp := fun vs H Q _ => ∃ (a : Addr) (ns : List Int), vs = [.ref a] ∧ SqL K H a (ns.map V.int) ∧ ns.length ≤ 63 ∧ ∀ H', Q (.bl true) H'
theorem ok_law (T : Tx K mg A) : FnOk P w K mg base CX0 4 A.f_law A.d_law ["script"] (spLaw K) := by
  refine T.F_law.ok sc_law (fun vs H Q E h => ?_) (fun cdv A' outer s H vs Q E hr h => ?_)
  · obtain ⟨a, ns, rfl, _⟩ := h
    rfl
  obtain ⟨a, ss, rfl, hS, hl, k⟩ := h
  refine ⟨_, (pss_cons (ps_set (i := 1) sc_law.nd rfl (Or.inr rfl) (pe_call (ok_law_draws T) (hr.mono (by decide)) rfl T.g_law_draws T.F_law_draws.kp T.b_law_draws .nil pass0 (pa_cons (pe_call (ok_law_cell T) (hr.mono (by decide)) rfl T.g_law_cell T.F_law_cell.kp T.b_law_cell .nil pass0 (pa_cons (pv 0) (pa_cons pe_int pa_nil))) (pa_cons pe_int pa_nil))))
      (pss_cons (ps_set (i := 2) sc_law.nd rfl (Or.inl rfl) (pe_ix ix_listI (pe_lstI (pa_cons pe_int (pa_cons pe_int (pa_cons (pe_op op_add pe_int (pe_op op_mod (pe_ix ix_listI (pv 1) pe_int (fun _ _ => rfl)) pe_int)) (pa_cons pe_int pa_nil))))) (pe_op op_mod (pe_ix ix_listI (pv 1) pe_int (fun _ _ => rfl)) pe_int) (fun _ _ => rfl)))
      (pss_cons (ps_set (i := 3) sc_law.nd rfl (Or.inl rfl) (pe_lstI pa_nil))
      (pss_cons (ps_for PassesOwn.never rfl (pi_range1 rfl T.z_range (pa_cons (pe_op op_mod (pe_ix ix_listI (pv 1) pe_int (fun _ _ => rfl)) pe_int) pa_nil)) (pg_name (i := 4) sc_law.nd rfl (Or.inl rfl))
        (pss_one (ps_set (i := 3) sc_law.nd rfl (Or.inl rfl) (pe_op op_catI (pe_op op_catI (pv 3) (pe_op op_repI (pe_lstI (pa_cons pe_int pa_nil)) (pe_op op_mod (pe_ix ix_listI (pv 1) (pe_op op_add pe_int (pv 4)) (fun _ _ => rfl)) (pe_ix ix_listI (pe_lstI (pa_cons pe_int (pa_cons pe_int (pa_cons pe_int pa_nil)))) (pe_op op_mod (pe_ix ix_listI (pv 1) pe_int (fun _ _ => rfl)) pe_int) (fun _ _ => rfl))))) (pe_lstI (pa_cons pe_int pa_nil))))))
      (pss_cons (ps_set (i := 3) sc_law.nd rfl (Or.inl rfl) (pe_op op_catI (pv 3) (pe_op op_repI (pe_lstI (pa_cons pe_int pa_nil)) (pe_op op_mod (pe_ix ix_listI (pv 1) pe_int (fun _ _ => rfl)) pe_int))))
      (pss_cons (ps_set (i := 5) sc_law.nd rfl (Or.inl rfl) (pe_call (ok_flux_of T) (hr.mono (by decide)) rfl T.g_flux_of T.F_flux_of.kp T.b_flux_of .nil passL (pa_cons (pv 3) (pa_cons (pv 2) pa_nil))))
      (pss_cons (ps_set (i := 6) sc_law.nd rfl (Or.inl rfl) (pe_op op_add pe_int (pe_op op_mod (pe_ix ix_listI (pv 1) pe_int (fun _ _ => rfl)) pe_int)))
      (pss_cons (ps_set (i := 7) sc_law.nd rfl (Or.inl rfl) (pe_op op_fdiv (pe_op op_add (pe_op op_mul pe_int (pv 6)) pe_int) pe_int))
      (pss_cons (ps_set (i := 8) sc_law.nd rfl (Or.inl rfl) (pe_op op_fdiv (pe_op op_mul pe_int (pv 6)) pe_int))
      (pss_cons (ps_set (i := 9) sc_law.nd rfl (Or.inl rfl) (pe_ix ix_listI (pe_lstI (pa_cons (pv 7) (pa_cons (pv 8) (pa_cons (pe_op op_add (pv 7) (pe_op op_mod (pe_ix ix_listI (pv 1) pe_int (fun _ _ => rfl)) (pe_op op_add (pe_op op_sub (pv 8) (pv 7)) pe_int))) pa_nil)))) (pe_op op_mod (pe_ix ix_listI (pv 1) pe_int (fun _ _ => rfl)) pe_int) (fun _ _ => rfl)))
      (pss_cons (ps_if (pt_not (pt_val (pe_call (ok_law_is_list T) (hr.mono (by decide)) rfl T.g_law_is_list T.F_law_is_list.kp T.b_law_is_list .nil pass0 (pa_cons (pe_call (ok_following_cells T) (hr.mono (by decide)) rfl T.g_following_cells T.F_following_cells.kp T.b_following_cells .nil passL (pa_cons (pe_call (ok_at_speed T) (hr.mono (by decide)) rfl T.g_at_speed T.F_at_speed.kp T.b_at_speed .nil passL (pa_cons (pv 5) (pa_cons (pv 9) (pa_cons (pv 6) pa_nil)))) (pa_cons (pv 2) pa_nil))) (pa_cons (pv 3) pa_nil))))) (pss_one (ps_ret pe_bl)) pss_nil)
      (pss_cons (ps_set (i := 10) sc_law.nd rfl (Or.inr rfl) (pe_op op_fdiv (pe_op op_sub (pv 2) pe_int) pe_int))
      (pss_cons (ps_setLc (i := 11) (own := [("k", 4)]) (g := (gName 4)) (tt := tYes) rfl sc_law.nd rfl rfl (sw_true rfl rfl rfl (by decide +kernel)) (pi_range1 rfl T.z_range (pa_cons (pe_op op_add pe_int (pe_op op_mod (pe_ix ix_listI (pv 1) pe_int (fun _ _ => rfl)) pe_int)) pa_nil)) (blkOk_by (N := n_law) (sc := (defScope s_law)) (by decide +kernel)) (fun _ _ _ _ _ => (pg_name (i := 4) sc_law.nd rfl (Or.inl rfl))) (fun _ _ _ _ _ => pts_nil) (fun _ _ _ _ _ => (pe_ix ix_listI (pe_lstI (pa_cons (pv 10) (pa_cons (pe_un un_neg (pv 10)) (pa_cons (pe_op op_sub (pe_op op_mod (pe_ix ix_listI (pv 1) (pe_op op_add pe_int (pv 4)) (fun _ _ => rfl)) (pe_op op_add (pe_op op_mul pe_int (pv 10)) pe_int)) (pv 10)) pa_nil)))) (pe_op op_mod (pe_ix ix_listI (pv 1) (pe_op op_add pe_int (pv 4)) (fun _ _ => rfl)) pe_int) (fun _ _ => rfl))))
      (pss_one (ps_ret (pe_call (ok_law_is_list T) (hr.mono (by decide)) rfl T.g_law_is_list T.F_law_is_list.kp T.b_law_is_list .nil pass0 (pa_cons (pe_call (ok_fixed_cells T) (hr.mono (by decide)) rfl T.g_fixed_cells T.F_fixed_cells.kp T.b_fixed_cells .nil passL (pa_cons (pe_call (ok_jittered T) (hr.mono (by decide)) rfl T.g_jittered T.F_jittered.kp T.b_jittered .nil passL (pa_cons (pv 5) (pa_cons (pv 11) pa_nil))) (pa_cons (pv 2) pa_nil))) (pa_cons (pv 3) pa_nil)))))))))))))))))), ?_⟩
  try simp only [tSeq, tAsg, tVar, tC, tOp, rI0, rI, tUn, rU, tIfS, tTest, tRet, tRetN, tDrop, tCB, tCons, tNil, tLst, tLstI, tTup, gName, tB, tAnd, tOr, tNot, tAndV, tOrV, tNotV, tIf, tNext, tBreak, tCont, gSub, tCall, tCallN, tAug, ipI, tBML, tBML0, isL_IL, isL_lst, L2.start, List.map_cons, List.map_nil, List.length_cons, List.length_nil, List.cons_append, List.nil_append, List.getElem?_cons_succ, List.getElem?_cons_zero, Option.some.injEq, exists_eq_left', exists_eq_left, exists_and_left, V.int.injEq, V.ref.injEq, V.bl.injEq, V.str.injEq, List.set_cons_zero, List.set_cons_succ, List.cons.injEq, and_true, true_and, Nat.reduceAdd, Nat.reduceSub, List.replicate_succ, List.replicate_zero, rIxI, rIxH, rIxTH, rSetI, rSetH, rCatI, rRepI, rSlI, rAppendI, rExtendI, decide_eq_true_eq, upd_same, IL_inj, HO.lst.injEq, toInts_cons, toInts_nil, Option.map_some, if_true, if_false, Bool.true_eq_false, Bool.false_eq_true, Bool.not_true, Bool.not_false, Bool.not_eq_true', decide_eq_false_iff_not, atI_0, atI_1, atI_2, atI_3, atI_4, Int.reduceToNat, Int.reduceLT, Int.reduceLE, Int.reduceNeg, Int.reducePow, cast_lit, upd_upd, Int.reduceAdd, Int.reduceMul, Int.reduceSub, Nat.reduceLT, Nat.reduceLeDiff, cmul_r, cdiv_r, tSl, tPart, tNoPart, rEq, rNe, scal_nn, scal_ii, scal_bb, scal_ss, scal_is, scal_si, V.ty.injEq, and_assoc, tyH_non, tyH_bl, tyH_int, tyH_str, tyH_ref, tyO_lst, tyO_IL, tyO_tup, itO_lst, itO_tup, itO_IL, Dw.rIxD, rLenI, rLenH, rLenTH, rLenQ, rLenB, rListI, Dw.rListS, rIntI, rIntB, rSumI, rIsiD, rIsX, tCallS, tMakeS, tMake, tMakeC, tMakeSC, tFld, sFld, HO.ins.injEq, HO.tup.injEq, cxOf_K, nox_K, tr_K, suite_K, rTupleI, rAllB, rAnyB, BL_inj, tChain, wOnly, wAs, wMany, rEqI, rNeI, Dw.rMax2, rMin2, Dw.rIsN, rIsNotN, rStrIn, rStrNotIn, not_true_eq_false, not_false_eq_true, reduceCtorEq, cl_bool, cl_int, cl_str, cl_list, cl_tuple, isB_NoneType_bool, isB_NoneType_int, isB_NoneType_str, isB_NoneType_list, isB_NoneType_tuple, isB_bool_bool, isB_bool_int, isB_bool_str, isB_bool_list, isB_bool_tuple, isB_int_bool, isB_int_int, isB_int_str, isB_int_list, isB_int_tuple, isB_str_bool, isB_str_int, isB_str_str, isB_str_list, isB_str_tuple, isB_list_bool, isB_list_int, isB_list_str, isB_list_list, isB_list_tuple, isB_tuple_bool, isB_tuple_int, isB_tuple_str, isB_tuple_list, isB_tuple_tuple, rSlCI, iRng3, iRev, gCons, gNil, iZip, iEnum, tLc_eq, tFor_eq, iRng1, iRng2, iList, iTup, rSetD, iKeys, tDNewK, Int.reducePow, Int.reduceNeg, iEnumT]
  refine ⟨a, ss, 0, rfl, hS, by omega, fun z0 => ?_⟩
  try simp only [tSeq, tAsg, tVar, tC, tOp, rI0, rI, tUn, rU, tIfS, tTest, tRet, tRetN, tDrop, tCB, tCons, tNil, tLst, tLstI, tTup, gName, tB, tAnd, tOr, tNot, tAndV, tOrV, tNotV, tIf, tNext, tBreak, tCont, gSub, tCall, tCallN, tAug, ipI, tBML, tBML0, isL_IL, isL_lst, L2.start, List.map_cons, List.map_nil, List.length_cons, List.length_nil, List.cons_append, List.nil_append, List.getElem?_cons_succ, List.getElem?_cons_zero, Option.some.injEq, exists_eq_left', exists_eq_left, exists_and_left, V.int.injEq, V.ref.injEq, V.bl.injEq, V.str.injEq, List.set_cons_zero, List.set_cons_succ, List.cons.injEq, and_true, true_and, Nat.reduceAdd, Nat.reduceSub, List.replicate_succ, List.replicate_zero, rIxI, rIxH, rIxTH, rSetI, rSetH, rCatI, rRepI, rSlI, rAppendI, rExtendI, decide_eq_true_eq, upd_same, IL_inj, HO.lst.injEq, toInts_cons, toInts_nil, Option.map_some, if_true, if_false, Bool.true_eq_false, Bool.false_eq_true, Bool.not_true, Bool.not_false, Bool.not_eq_true', decide_eq_false_iff_not, atI_0, atI_1, atI_2, atI_3, atI_4, Int.reduceToNat, Int.reduceLT, Int.reduceLE, Int.reduceNeg, Int.reducePow, cast_lit, upd_upd, Int.reduceAdd, Int.reduceMul, Int.reduceSub, Nat.reduceLT, Nat.reduceLeDiff, cmul_r, cdiv_r, tSl, tPart, tNoPart, rEq, rNe, scal_nn, scal_ii, scal_bb, scal_ss, scal_is, scal_si, V.ty.injEq, and_assoc, tyH_non, tyH_bl, tyH_int, tyH_str, tyH_ref, tyO_lst, tyO_IL, tyO_tup, itO_lst, itO_tup, itO_IL, Dw.rIxD, rLenI, rLenH, rLenTH, rLenQ, rLenB, rListI, Dw.rListS, rIntI, rIntB, rSumI, rIsiD, rIsX, tCallS, tMakeS, tMake, tMakeC, tMakeSC, tFld, sFld, HO.ins.injEq, HO.tup.injEq, cxOf_K, nox_K, tr_K, suite_K, rTupleI, rAllB, rAnyB, BL_inj, tChain, wOnly, wAs, wMany, rEqI, rNeI, Dw.rMax2, rMin2, Dw.rIsN, rIsNotN, rStrIn, rStrNotIn, not_true_eq_false, not_false_eq_true, reduceCtorEq, cl_bool, cl_int, cl_str, cl_list, cl_tuple, isB_NoneType_bool, isB_NoneType_int, isB_NoneType_str, isB_NoneType_list, isB_NoneType_tuple, isB_bool_bool, isB_bool_int, isB_bool_str, isB_bool_list, isB_bool_tuple, isB_int_bool, isB_int_int, isB_int_str, isB_int_list, isB_int_tuple, isB_str_bool, isB_str_int, isB_str_str, isB_str_list, isB_str_tuple, isB_list_bool, isB_list_int, isB_list_str, isB_list_list, isB_list_tuple, isB_tuple_bool, isB_tuple_int, isB_tuple_str, isB_tuple_list, isB_tuple_tuple, rSlCI, iRng3, iRev, gCons, gNil, iZip, iEnum, tLc_eq, tFor_eq, iRng1, iRng2, iList, iTup, rSetD, iKeys, tDNewK, Int.reducePow, Int.reduceNeg, iEnumT]
  refine ⟨z0, 90, rfl, by omega, by omega, fun r ns H1 s1 nr e1 hl1 hd => ?_⟩
  have g : ∀ k : Nat, k < 90 → 0 ≤ ns.getD k 0 ∧ ns.getD k 0 < 4096 := fun k hk => hd.get (by omega)
  have g0 := g 0 (by omega)
  have g1 := g 1 (by omega)
  have g2 := g 2 (by omega)
  have g3 := g 3 (by omega)
  have g4 := g 4 (by omega)
  have g5 := g 5 (by omega)
  have g6 := g 6 (by omega)
  have g7 := g 7 (by omega)
  have g8 := g 8 (by omega)
  try simp only [tSeq, tAsg, tVar, tC, tOp, rI0, rI, tUn, rU, tIfS, tTest, tRet, tRetN, tDrop, tCB, tCons, tNil, tLst, tLstI, tTup, gName, tB, tAnd, tOr, tNot, tAndV, tOrV, tNotV, tIf, tNext, tBreak, tCont, gSub, tCall, tCallN, tAug, ipI, tBML, tBML0, isL_IL, isL_lst, L2.start, List.map_cons, List.map_nil, List.length_cons, List.length_nil, List.cons_append, List.nil_append, List.getElem?_cons_succ, List.getElem?_cons_zero, Option.some.injEq, exists_eq_left', exists_eq_left, exists_and_left, V.int.injEq, V.ref.injEq, V.bl.injEq, V.str.injEq, List.set_cons_zero, List.set_cons_succ, List.cons.injEq, and_true, true_and, Nat.reduceAdd, Nat.reduceSub, List.replicate_succ, List.replicate_zero, rIxI, rIxH, rIxTH, rSetI, rSetH, rCatI, rRepI, rSlI, rAppendI, rExtendI, decide_eq_true_eq, upd_same, IL_inj, HO.lst.injEq, toInts_cons, toInts_nil, Option.map_some, if_true, if_false, Bool.true_eq_false, Bool.false_eq_true, Bool.not_true, Bool.not_false, Bool.not_eq_true', decide_eq_false_iff_not, atI_0, atI_1, atI_2, atI_3, atI_4, Int.reduceToNat, Int.reduceLT, Int.reduceLE, Int.reduceNeg, Int.reducePow, cast_lit, upd_upd, Int.reduceAdd, Int.reduceMul, Int.reduceSub, Nat.reduceLT, Nat.reduceLeDiff, cmul_r, cdiv_r, tSl, tPart, tNoPart, rEq, rNe, scal_nn, scal_ii, scal_bb, scal_ss, scal_is, scal_si, V.ty.injEq, and_assoc, tyH_non, tyH_bl, tyH_int, tyH_str, tyH_ref, tyO_lst, tyO_IL, tyO_tup, itO_lst, itO_tup, itO_IL, Dw.rIxD, rLenI, rLenH, rLenTH, rLenQ, rLenB, rListI, Dw.rListS, rIntI, rIntB, rSumI, rIsiD, rIsX, tCallS, tMakeS, tMake, tMakeC, tMakeSC, tFld, sFld, HO.ins.injEq, HO.tup.injEq, cxOf_K, nox_K, tr_K, suite_K, rTupleI, rAllB, rAnyB, BL_inj, tChain, wOnly, wAs, wMany, rEqI, rNeI, Dw.rMax2, rMin2, Dw.rIsN, rIsNotN, rStrIn, rStrNotIn, not_true_eq_false, not_false_eq_true, reduceCtorEq, cl_bool, cl_int, cl_str, cl_list, cl_tuple, isB_NoneType_bool, isB_NoneType_int, isB_NoneType_str, isB_NoneType_list, isB_NoneType_tuple, isB_bool_bool, isB_bool_int, isB_bool_str, isB_bool_list, isB_bool_tuple, isB_int_bool, isB_int_int, isB_int_str, isB_int_list, isB_int_tuple, isB_str_bool, isB_str_int, isB_str_str, isB_str_list, isB_str_tuple, isB_list_bool, isB_list_int, isB_list_str, isB_list_list, isB_list_tuple, isB_tuple_bool, isB_tuple_int, isB_tuple_str, isB_tuple_list, isB_tuple_tuple, rSlCI, iRng3, iRev, gCons, gNil, iZip, iEnum, tLc_eq, tFor_eq, iRng1, iRng2, iList, iTup, rSetD, iKeys, tDNewK, Int.reducePow, Int.reduceNeg, iEnumT, e1, hl1]
  refine ⟨line_le (by decide), fun u hu => ?_⟩
  have s2 := same_new hu (IL [80, 1000, 80 + ns.getD 0 0 % 400, 81])
  have e1u := s2 _ _ e1
  generalize upd H1 u (IL [80, 1000, 80 + ns.getD 0 0 % 400, 81]) = H2 at s2 e1u ⊢
  try simp only [tSeq, tAsg, tVar, tC, tOp, rI0, rI, tUn, rU, tIfS, tTest, tRet, tRetN, tDrop, tCB, tCons, tNil, tLst, tLstI, tTup, gName, tB, tAnd, tOr, tNot, tAndV, tOrV, tNotV, tIf, tNext, tBreak, tCont, gSub, tCall, tCallN, tAug, ipI, tBML, tBML0, isL_IL, isL_lst, L2.start, List.map_cons, List.map_nil, List.length_cons, List.length_nil, List.cons_append, List.nil_append, List.getElem?_cons_succ, List.getElem?_cons_zero, Option.some.injEq, exists_eq_left', exists_eq_left, exists_and_left, V.int.injEq, V.ref.injEq, V.bl.injEq, V.str.injEq, List.set_cons_zero, List.set_cons_succ, List.cons.injEq, and_true, true_and, Nat.reduceAdd, Nat.reduceSub, List.replicate_succ, List.replicate_zero, rIxI, rIxH, rIxTH, rSetI, rSetH, rCatI, rRepI, rSlI, rAppendI, rExtendI, decide_eq_true_eq, upd_same, IL_inj, HO.lst.injEq, toInts_cons, toInts_nil, Option.map_some, if_true, if_false, Bool.true_eq_false, Bool.false_eq_true, Bool.not_true, Bool.not_false, Bool.not_eq_true', decide_eq_false_iff_not, atI_0, atI_1, atI_2, atI_3, atI_4, Int.reduceToNat, Int.reduceLT, Int.reduceLE, Int.reduceNeg, Int.reducePow, cast_lit, upd_upd, Int.reduceAdd, Int.reduceMul, Int.reduceSub, Nat.reduceLT, Nat.reduceLeDiff, cmul_r, cdiv_r, tSl, tPart, tNoPart, rEq, rNe, scal_nn, scal_ii, scal_bb, scal_ss, scal_is, scal_si, V.ty.injEq, and_assoc, tyH_non, tyH_bl, tyH_int, tyH_str, tyH_ref, tyO_lst, tyO_IL, tyO_tup, itO_lst, itO_tup, itO_IL, Dw.rIxD, rLenI, rLenH, rLenTH, rLenQ, rLenB, rListI, Dw.rListS, rIntI, rIntB, rSumI, rIsiD, rIsX, tCallS, tMakeS, tMake, tMakeC, tMakeSC, tFld, sFld, HO.ins.injEq, HO.tup.injEq, cxOf_K, nox_K, tr_K, suite_K, rTupleI, rAllB, rAnyB, BL_inj, tChain, wOnly, wAs, wMany, rEqI, rNeI, Dw.rMax2, rMin2, Dw.rIsN, rIsNotN, rStrIn, rStrNotIn, not_true_eq_false, not_false_eq_true, reduceCtorEq, cl_bool, cl_int, cl_str, cl_list, cl_tuple, isB_NoneType_bool, isB_NoneType_int, isB_NoneType_str, isB_NoneType_list, isB_NoneType_tuple, isB_bool_bool, isB_bool_int, isB_bool_str, isB_bool_list, isB_bool_tuple, isB_int_bool, isB_int_int, isB_int_str, isB_int_list, isB_int_tuple, isB_str_bool, isB_str_int, isB_str_str, isB_str_list, isB_str_tuple, isB_list_bool, isB_list_int, isB_list_str, isB_list_list, isB_list_tuple, isB_tuple_bool, isB_tuple_int, isB_tuple_str, isB_tuple_list, isB_tuple_tuple, rSlCI, iRng3, iRev, gCons, gNil, iZip, iEnum, tLc_eq, tFor_eq, iRng1, iRng2, iList, iTup, rSetD, iKeys, tDNewK, Int.reducePow, Int.reduceNeg, iEnumT, e1u, hl1]
  generalize hc : [(80 : Int), 1000, 80 + ns.getD 0 0 % 400, 81].getD (ns.getD 1 0 % 4).toNat 0 = c
  have oc2 : 80 ≤ c ∧ c ≤ 1000 := by
    rw [← hc]
    exact pick4 (P := fun z => 80 ≤ z ∧ z ≤ 1000) ⟨by omega, by omega⟩ ⟨by omega, by omega⟩ ⟨by omega, by omega⟩ ⟨by omega, by omega⟩ (by omega)
  clear hc
  obtain ⟨c80, c1000⟩ := oc2
  refine ⟨by omega, by omega, Nat.zero_le _, fun D0 hD0 => ?_⟩
  have s3 := same_new hD0 (IL [])
  have e1v := s3 _ _ e1u
  try simp only [tSeq, tAsg, tVar, tC, tOp, rI0, rI, tUn, rU, tIfS, tTest, tRet, tRetN, tDrop, tCB, tCons, tNil, tLst, tLstI, tTup, gName, tB, tAnd, tOr, tNot, tAndV, tOrV, tNotV, tIf, tNext, tBreak, tCont, gSub, tCall, tCallN, tAug, ipI, tBML, tBML0, isL_IL, isL_lst, L2.start, List.map_cons, List.map_nil, List.length_cons, List.length_nil, List.cons_append, List.nil_append, List.getElem?_cons_succ, List.getElem?_cons_zero, Option.some.injEq, exists_eq_left', exists_eq_left, exists_and_left, V.int.injEq, V.ref.injEq, V.bl.injEq, V.str.injEq, List.set_cons_zero, List.set_cons_succ, List.cons.injEq, and_true, true_and, Nat.reduceAdd, Nat.reduceSub, List.replicate_succ, List.replicate_zero, rIxI, rIxH, rIxTH, rSetI, rSetH, rCatI, rRepI, rSlI, rAppendI, rExtendI, decide_eq_true_eq, upd_same, IL_inj, HO.lst.injEq, toInts_cons, toInts_nil, Option.map_some, if_true, if_false, Bool.true_eq_false, Bool.false_eq_true, Bool.not_true, Bool.not_false, Bool.not_eq_true', decide_eq_false_iff_not, atI_0, atI_1, atI_2, atI_3, atI_4, Int.reduceToNat, Int.reduceLT, Int.reduceLE, Int.reduceNeg, Int.reducePow, cast_lit, upd_upd, Int.reduceAdd, Int.reduceMul, Int.reduceSub, Nat.reduceLT, Nat.reduceLeDiff, cmul_r, cdiv_r, tSl, tPart, tNoPart, rEq, rNe, scal_nn, scal_ii, scal_bb, scal_ss, scal_is, scal_si, V.ty.injEq, and_assoc, tyH_non, tyH_bl, tyH_int, tyH_str, tyH_ref, tyO_lst, tyO_IL, tyO_tup, itO_lst, itO_tup, itO_IL, Dw.rIxD, rLenI, rLenH, rLenTH, rLenQ, rLenB, rListI, Dw.rListS, rIntI, rIntB, rSumI, rIsiD, rIsX, tCallS, tMakeS, tMake, tMakeC, tMakeSC, tFld, sFld, HO.ins.injEq, HO.tup.injEq, cxOf_K, nox_K, tr_K, suite_K, rTupleI, rAllB, rAnyB, BL_inj, tChain, wOnly, wAs, wMany, rEqI, rNeI, Dw.rMax2, rMin2, Dw.rIsN, rIsNotN, rStrIn, rStrNotIn, not_true_eq_false, not_false_eq_true, reduceCtorEq, cl_bool, cl_int, cl_str, cl_list, cl_tuple, isB_NoneType_bool, isB_NoneType_int, isB_NoneType_str, isB_NoneType_list, isB_NoneType_tuple, isB_bool_bool, isB_bool_int, isB_bool_str, isB_bool_list, isB_bool_tuple, isB_int_bool, isB_int_int, isB_int_str, isB_int_list, isB_int_tuple, isB_str_bool, isB_str_int, isB_str_str, isB_str_list, isB_str_tuple, isB_list_bool, isB_list_int, isB_list_str, isB_list_list, isB_list_tuple, isB_tuple_bool, isB_tuple_int, isB_tuple_str, isB_tuple_list, isB_tuple_tuple, rSlCI, iRng3, iRev, gCons, gNil, iZip, iEnum, tLc_eq, tFor_eq, iRng1, iRng2, iList, iTup, rSetD, iKeys, tDNewK, Int.reducePow, Int.reduceNeg, iEnumT, e1v, hl1]
  refine ⟨by omega, by omega, ?_⟩
  obtain ⟨I, hI⟩ : ∃ F : Nat → L2.St → Hp → Prop, F = (fun i σ H' => Same H2 H' ∧ ∃ (D : Addr) (ms : List Int) (y : Option V), C14 ms ∧ ms.length = i ∧ H' D = some (IL (onesZ ms)) ∧ σ = [some (V.ref a), some (V.ref r), some (V.int c), some (V.ref D), y, none, none, none, none, none, none, none]) := ⟨_, rfl⟩
  refine forR I (by rw [hI]; exact ⟨s3, D0, [], _, (fun m hm => by cases hm), rfl, upd_same, rfl⟩) ?_ ?_
  · intro i σ H3 hi h
    rw [hI] at h
    obtain ⟨s4, D, ms, y, hms, hml, eD, rfl⟩ := h
    have e1w := s4 _ _ e1u
    have gi := g (10 + (0 + (i : Int))).toNat (by omega)
    have hol := onesZ_len (M := 4) (ms := ms) (fun m hm => by have := hms m hm; omega)
    try simp only [tSeq, tAsg, tVar, tC, tOp, rI0, rI, tUn, rU, tIfS, tTest, tRet, tRetN, tDrop, tCB, tCons, tNil, tLst, tLstI, tTup, gName, tB, tAnd, tOr, tNot, tAndV, tOrV, tNotV, tIf, tNext, tBreak, tCont, gSub, tCall, tCallN, tAug, ipI, tBML, tBML0, isL_IL, isL_lst, L2.start, List.map_cons, List.map_nil, List.length_cons, List.length_nil, List.cons_append, List.nil_append, List.getElem?_cons_succ, List.getElem?_cons_zero, Option.some.injEq, exists_eq_left', exists_eq_left, exists_and_left, V.int.injEq, V.ref.injEq, V.bl.injEq, V.str.injEq, List.set_cons_zero, List.set_cons_succ, List.cons.injEq, and_true, true_and, Nat.reduceAdd, Nat.reduceSub, List.replicate_succ, List.replicate_zero, rIxI, rIxH, rIxTH, rSetI, rSetH, rCatI, rRepI, rSlI, rAppendI, rExtendI, decide_eq_true_eq, upd_same, IL_inj, HO.lst.injEq, toInts_cons, toInts_nil, Option.map_some, if_true, if_false, Bool.true_eq_false, Bool.false_eq_true, Bool.not_true, Bool.not_false, Bool.not_eq_true', decide_eq_false_iff_not, atI_0, atI_1, atI_2, atI_3, atI_4, Int.reduceToNat, Int.reduceLT, Int.reduceLE, Int.reduceNeg, Int.reducePow, cast_lit, upd_upd, Int.reduceAdd, Int.reduceMul, Int.reduceSub, Nat.reduceLT, Nat.reduceLeDiff, cmul_r, cdiv_r, tSl, tPart, tNoPart, rEq, rNe, scal_nn, scal_ii, scal_bb, scal_ss, scal_is, scal_si, V.ty.injEq, and_assoc, tyH_non, tyH_bl, tyH_int, tyH_str, tyH_ref, tyO_lst, tyO_IL, tyO_tup, itO_lst, itO_tup, itO_IL, Dw.rIxD, rLenI, rLenH, rLenTH, rLenQ, rLenB, rListI, Dw.rListS, rIntI, rIntB, rSumI, rIsiD, rIsX, tCallS, tMakeS, tMake, tMakeC, tMakeSC, tFld, sFld, HO.ins.injEq, HO.tup.injEq, cxOf_K, nox_K, tr_K, suite_K, rTupleI, rAllB, rAnyB, BL_inj, tChain, wOnly, wAs, wMany, rEqI, rNeI, Dw.rMax2, rMin2, Dw.rIsN, rIsNotN, rStrIn, rStrNotIn, not_true_eq_false, not_false_eq_true, reduceCtorEq, cl_bool, cl_int, cl_str, cl_list, cl_tuple, isB_NoneType_bool, isB_NoneType_int, isB_NoneType_str, isB_NoneType_list, isB_NoneType_tuple, isB_bool_bool, isB_bool_int, isB_bool_str, isB_bool_list, isB_bool_tuple, isB_int_bool, isB_int_int, isB_int_str, isB_int_list, isB_int_tuple, isB_str_bool, isB_str_int, isB_str_str, isB_str_list, isB_str_tuple, isB_list_bool, isB_list_int, isB_list_str, isB_list_list, isB_list_tuple, isB_tuple_bool, isB_tuple_int, isB_tuple_str, isB_tuple_list, isB_tuple_tuple, rSlCI, iRng3, iRev, gCons, gNil, iZip, iEnum, tLc_eq, tFor_eq, iRng1, iRng2, iList, iTup, rSetD, iKeys, tDNewK, Int.reducePow, Int.reduceNeg, iEnumT, e1w, hl1, eD]
    have hmm : 0 < [(2 : Int), 4, 4].getD (ns.getD 3 0 % 3).toNat 0 ∧ [(2 : Int), 4, 4].getD (ns.getD 3 0 % 3).toNat 0 ≤ 4 := pick3 (P := fun z => 0 < z ∧ z ≤ 4) (by decide) (by decide) (by decide) (by omega)
    have dm0 := Int.emod_nonneg (ns.getD (10 + (0 + (i : Int))).toNat 0) (show [(2 : Int), 4, 4].getD (ns.getD 3 0 % 3).toNat 0 ≠ 0 by omega)
    have dm1 := Int.emod_lt_of_pos (ns.getD (10 + (0 + (i : Int))).toNat 0) hmm.1
    refine ⟨line_le (by decide), fun a1 ha1 => ?_⟩
    have q1 := same_new ha1 (IL [0])
    refine ⟨ns, q1 _ _ e1w, by omega, by omega, line_le (by decide), fun a2 ha2 => ?_⟩
    have q2 := same_new ha2 (IL [2, 4, 4])
    have q12 := q1.trans q2
    refine ⟨ns, q12 _ _ e1w, by omega, by omega, by omega, hmm.1, [0], q2 _ _ upd_same, by omega, by omega, line_le (by show 1 * _ ≤ _; omega), fun a3 ha3 => ?_⟩
    generalize ns.getD (10 + (0 + (i : Int))).toNat 0 % [(2 : Int), 4, 4].getD (ns.getD 3 0 % 3).toNat 0 = d at dm0 dm1 ha3 ⊢
    have q3 := q12.trans (same_new ha3 (IL (rep d [0])))
    refine ⟨_, q3 _ _ eD, ?_, fun a4 ha4 => ⟨line_le (by decide), fun a5 ha5 => ⟨_, same_new ha5 _ _ _ upd_same, ?_, fun a6 ha6 => ?_⟩⟩⟩
    · rw [rep_zero, List.length_replicate]
      exact line_le (by omega)
    · rw [rep_zero, List.length_append, List.length_replicate]
      exact line_le (by omega)
    have q6 := q3.trans ((same_new ha4 (IL (onesZ ms ++ rep d [0]))).trans ((same_new ha5 (IL [1])).trans (same_new ha6 (IL (onesZ ms ++ rep d [0] ++ [1])))))
    rw [hI]
    refine ⟨s4.trans q6, a6, ms ++ [d + 1], _, fun m hm => ?_, by rw [List.length_append, hml]; rfl, ?_, rfl⟩
    · rcases List.mem_append.mp hm with h | h
      · exact hms m h
      · rw [List.mem_singleton.mp h]
        omega
    · rw [upd_same, onesZ_more, rep_zero, List.append_assoc]
      have e : d + 1 - 1 = d := by omega
      unfold oneCells
      rw [e]
  · intro σ H3 h
    rw [hI] at h
    obtain ⟨s4, D, ms, y, hms, hml, eD, rfl⟩ := h
    have e1w := s4 _ _ e1u
    have hol := onesZ_len (M := 4) (ms := ms) (fun m hm => by have := hms m hm; omega)
    try simp only [tSeq, tAsg, tVar, tC, tOp, rI0, rI, tUn, rU, tIfS, tTest, tRet, tRetN, tDrop, tCB, tCons, tNil, tLst, tLstI, tTup, gName, tB, tAnd, tOr, tNot, tAndV, tOrV, tNotV, tIf, tNext, tBreak, tCont, gSub, tCall, tCallN, tAug, ipI, tBML, tBML0, isL_IL, isL_lst, L2.start, List.map_cons, List.map_nil, List.length_cons, List.length_nil, List.cons_append, List.nil_append, List.getElem?_cons_succ, List.getElem?_cons_zero, Option.some.injEq, exists_eq_left', exists_eq_left, exists_and_left, V.int.injEq, V.ref.injEq, V.bl.injEq, V.str.injEq, List.set_cons_zero, List.set_cons_succ, List.cons.injEq, and_true, true_and, Nat.reduceAdd, Nat.reduceSub, List.replicate_succ, List.replicate_zero, rIxI, rIxH, rIxTH, rSetI, rSetH, rCatI, rRepI, rSlI, rAppendI, rExtendI, decide_eq_true_eq, upd_same, IL_inj, HO.lst.injEq, toInts_cons, toInts_nil, Option.map_some, if_true, if_false, Bool.true_eq_false, Bool.false_eq_true, Bool.not_true, Bool.not_false, Bool.not_eq_true', decide_eq_false_iff_not, atI_0, atI_1, atI_2, atI_3, atI_4, Int.reduceToNat, Int.reduceLT, Int.reduceLE, Int.reduceNeg, Int.reducePow, cast_lit, upd_upd, Int.reduceAdd, Int.reduceMul, Int.reduceSub, Nat.reduceLT, Nat.reduceLeDiff, cmul_r, cdiv_r, tSl, tPart, tNoPart, rEq, rNe, scal_nn, scal_ii, scal_bb, scal_ss, scal_is, scal_si, V.ty.injEq, and_assoc, tyH_non, tyH_bl, tyH_int, tyH_str, tyH_ref, tyO_lst, tyO_IL, tyO_tup, itO_lst, itO_tup, itO_IL, Dw.rIxD, rLenI, rLenH, rLenTH, rLenQ, rLenB, rListI, Dw.rListS, rIntI, rIntB, rSumI, rIsiD, rIsX, tCallS, tMakeS, tMake, tMakeC, tMakeSC, tFld, sFld, HO.ins.injEq, HO.tup.injEq, cxOf_K, nox_K, tr_K, suite_K, rTupleI, rAllB, rAnyB, BL_inj, tChain, wOnly, wAs, wMany, rEqI, rNeI, Dw.rMax2, rMin2, Dw.rIsN, rIsNotN, rStrIn, rStrNotIn, not_true_eq_false, not_false_eq_true, reduceCtorEq, cl_bool, cl_int, cl_str, cl_list, cl_tuple, isB_NoneType_bool, isB_NoneType_int, isB_NoneType_str, isB_NoneType_list, isB_NoneType_tuple, isB_bool_bool, isB_bool_int, isB_bool_str, isB_bool_list, isB_bool_tuple, isB_int_bool, isB_int_int, isB_int_str, isB_int_list, isB_int_tuple, isB_str_bool, isB_str_int, isB_str_str, isB_str_list, isB_str_tuple, isB_list_bool, isB_list_int, isB_list_str, isB_list_list, isB_list_tuple, isB_tuple_bool, isB_tuple_int, isB_tuple_str, isB_tuple_list, isB_tuple_tuple, rSlCI, iRng3, iRev, gCons, gNil, iZip, iEnum, tLc_eq, tFor_eq, iRng1, iRng2, iList, iTup, rSetD, iKeys, tDNewK, Int.reducePow, Int.reduceNeg, iEnumT, e1w, hl1, eD]
    refine ⟨line_le (by decide), fun a1 ha1 => ?_⟩
    have q1 := same_new ha1 (IL [0])
    refine ⟨ns, q1 _ _ e1w, by omega, by omega, by omega, line_le (by show 1 * _ ≤ _; omega), fun a2 ha2 => ?_⟩
    have q2 := q1.trans (same_new ha2 (IL (rep (ns.getD 4 0 % 5) [0])))
    refine ⟨_, q2 _ _ eD, by rw [rep_zero, List.length_replicate]; exact line_le (by omega), fun a3 ha3 => ?_⟩
    have q3 := q2.trans (same_new ha3 (IL (onesZ ms ++ rep (ns.getD 4 0 % 5) [0])))
    have e3 : upd (upd (upd H3 a1 (IL [0])) a2 (IL (rep (ns.getD 4 0 % 5) [0]))) a3 (IL (onesZ ms ++ rep (ns.getD 4 0 % 5) [0])) a3 = some (IL (onesZ ms ++ rep (ns.getD 4 0 % 5) [0])) := upd_same
    generalize upd (upd (upd H3 a1 (IL [0])) a2 (IL (rep (ns.getD 4 0 % 5) [0]))) a3 (IL (onesZ ms ++ rep (ns.getD 4 0 % 5) [0])) = H4 at q3 e3 ⊢
    rw [rep_zero] at e3
    have hz4 : (ns.getD 4 0 % 5).toNat ≤ 4 := by omega
    generalize (ns.getD 4 0 % 5).toNat = z at e3 hz4
    have hm1 : ∀ m ∈ ms, 1 ≤ m := fun m hm => by have := hms m hm; omega
    have hfx := flux_cells (c := c) hm1 z
    have hcell : (onesZ ms ++ List.replicate z 0).length ≤ 300 := by rw [List.length_append, List.length_replicate]; omega
    have oc : okCell c := ⟨by omega, by omega⟩
    have cz0 : 0 ≤ c * (z : Int) := Int.mul_nonneg (by omega) (by omega)
    have cz1 : c * (z : Int) ≤ 4000 := by
      have := Int.mul_le_mul c1000 (show (z : Int) ≤ 4 by omega) (by omega) (by decide)
      omega
    have hcm : ∀ m, m = 1 ∨ m = 2 ∨ m = 3 ∨ m = 4 → c ≤ c * m ∧ c * m ≤ 4 * c := fun m hm => by
      rcases hm with rfl | rfl | rfl | rfl <;> omega
    have okr : OkRead (ms.map (c * ·)) (c * (z : Int)) := ⟨by rw [List.length_map]; omega, fun t ht => by
      obtain ⟨m, hm, rfl⟩ := List.mem_map.mp ht
      have := hcm m (hms m hm)
      exact ⟨by omega, by omega⟩, cz0, by omega⟩
    refine ⟨a3, c, _, rfl, e3, by omega, ?_⟩
    rw [hfx]
    refine ⟨fun _ _ rd H5 s5 n5 hrd => ?_, fun _ no => absurd okr no, fun no => absurd oc no⟩
    have e1y := s5 _ _ (q3 _ _ e1w)
    have e3y := s5 _ _ e3
    have hlh : ∀ q : Int, 1 ≤ q → (15 * q + 15) / 16 ≤ q ∧ q ≤ 17 * q / 16 := fun q h => ⟨by omega, by omega⟩
    have hlh0 := hlh (1 + ns.getD 5 0 % 900) (by omega)
    refine ⟨ns, e1y, by omega, .inl ⟨by decide, by decide⟩, .inl ⟨by decide, by decide⟩, ns, e1y, by omega, by omega, line_le (by decide), fun a4 ha4 => ?_⟩
    have hq1 : 1 ≤ 1 + ns.getD 5 0 % 900 ∧ 1 + ns.getD 5 0 % 900 ≤ 900 := by omega
    generalize 1 + ns.getD 5 0 % 900 = q at hq1 hlh0 ha4 ⊢
    have dv0 := Int.emod_nonneg (ns.getD 6 0) (show 17 * q / 16 - (15 * q + 15) / 16 + 1 ≠ 0 by omega)
    have dv1 := Int.emod_lt_of_pos (ns.getD 6 0) (show 0 < 17 * q / 16 - (15 * q + 15) / 16 + 1 by omega)
    generalize ns.getD 6 0 % (17 * q / 16 - (15 * q + 15) / 16 + 1) = dv at dv0 dv1 ha4 ⊢
    have q4 := same_new ha4 (IL [(15 * q + 15) / 16, 17 * q / 16, (15 * q + 15) / 16 + dv])
    refine ⟨ns, q4 _ _ e1y, by omega, by omega, by omega, ?_⟩
    have hp : 15 * q ≤ 16 * [(15 * q + 15) / 16, 17 * q / 16, (15 * q + 15) / 16 + dv].getD (ns.getD 7 0 % 3).toNat 0 ∧ 16 * [(15 * q + 15) / 16, 17 * q / 16, (15 * q + 15) / 16 + dv].getD (ns.getD 7 0 % 3).toNat 0 ≤ 17 * q :=
      pick3 (P := fun p => 15 * q ≤ 16 * p ∧ 16 * p ≤ 17 * q) ⟨by omega, by omega⟩ ⟨by omega, by omega⟩ ⟨by omega, by omega⟩ (by omega)
    generalize [(15 * q + 15) / 16, 17 * q / 16, (15 * q + 15) / 16 + dv].getD (ns.getD 7 0 % 3).toNat 0 = p at hp ⊢
    have hq0 : 0 < q := by omega
    have hsz := fun m hm => scl_size (c := c) (p := p) (q := q) (m := m) hq0 c80 c1000 hp hm
    have hmap : (ms.map (c * ·)).map (fun t => max 1 (scl t p q)) = ms.map fun m => scl (c * m) p q := by
      rw [List.map_map]
      refine List.map_congr_left fun m hm => ?_
      have := hsz m (hms m hm)
      show max 1 (scl (c * m) p q) = _
      omega
    obtain ⟨fb1, fb2, fb3⟩ := follow_back hq0 c80 hp hms hz4
    have sz0 : 0 ≤ scl (c * (z : Int)) p q ∧ scl (c * (z : Int)) p q ≤ 1000000 := by
      refine ⟨scl_nn cz0 ⟨by omega, by omega⟩ ⟨by omega, by omega⟩, ?_⟩
      by_cases hz0 : z = 0
      · subst hz0
        unfold scl
        have : (2 * (c * ((0 : Nat) : Int)) * p + q) / (2 * q) < 1 := Int.ediv_lt_of_lt_mul (by omega) (by simp; omega)
        omega
      · have := hsz (z : Int) (by omega)
        omega
    have ok2 : OkRead (ms.map fun m => scl (c * m) p q) (scl (c * (z : Int)) p q) := ⟨by rw [List.length_map]; omega, fun t ht => by
      obtain ⟨m, hm, rfl⟩ := List.mem_map.mp ht
      have := hsz m (hms m hm)
      exact ⟨by omega, by omega⟩, sz0.1, sz0.2⟩
    refine ⟨rd, p, q, _, _, rfl, hrd.same q4, okr, ?_⟩
    rw [hmap]
    refine ⟨fun _ _ _ r2 H6 s6 n6 hrd2 => ?_, fun _ _ no => absurd ok2 no, fun no => absurd ⟨⟨by omega, by omega⟩, ⟨by omega, by omega⟩⟩ no⟩
    refine ⟨r2, c, _, _, rfl, hrd2, ok2, fun _ => ⟨?_, fun u2 H7 s7 n7 e7 => ?_⟩, fun no => absurd oc no⟩
    · unfold FewF
      rw [fb2, fb3]
      omega
    rw [fb1] at e7
    have s47 := q4.trans (s6.trans s7)
    have e1z := s47 _ _ e1y
    have e3z := s47 _ _ e3y
    refine ⟨u2, a3, _, rfl, e7, e3z, true, rfl, ?_⟩
    rw [if_neg (by decide)]
    have hrd7 := hrd.same s47
    generalize hmost : (c - 1) / 2 = most
    have hm : 2 * most < c ∧ 0 ≤ most := by omega
    try simp only [tSeq, tAsg, tVar, tC, tOp, rI0, rI, tUn, rU, tIfS, tTest, tRet, tRetN, tDrop, tCB, tCons, tNil, tLst, tLstI, tTup, gName, tB, tAnd, tOr, tNot, tAndV, tOrV, tNotV, tIf, tNext, tBreak, tCont, gSub, tCall, tCallN, tAug, ipI, tBML, tBML0, isL_IL, isL_lst, L2.start, List.map_cons, List.map_nil, List.length_cons, List.length_nil, List.cons_append, List.nil_append, List.getElem?_cons_succ, List.getElem?_cons_zero, Option.some.injEq, exists_eq_left', exists_eq_left, exists_and_left, V.int.injEq, V.ref.injEq, V.bl.injEq, V.str.injEq, List.set_cons_zero, List.set_cons_succ, List.cons.injEq, and_true, true_and, Nat.reduceAdd, Nat.reduceSub, List.replicate_succ, List.replicate_zero, rIxI, rIxH, rIxTH, rSetI, rSetH, rCatI, rRepI, rSlI, rAppendI, rExtendI, decide_eq_true_eq, upd_same, IL_inj, HO.lst.injEq, toInts_cons, toInts_nil, Option.map_some, if_true, if_false, Bool.true_eq_false, Bool.false_eq_true, Bool.not_true, Bool.not_false, Bool.not_eq_true', decide_eq_false_iff_not, atI_0, atI_1, atI_2, atI_3, atI_4, Int.reduceToNat, Int.reduceLT, Int.reduceLE, Int.reduceNeg, Int.reducePow, cast_lit, upd_upd, Int.reduceAdd, Int.reduceMul, Int.reduceSub, Nat.reduceLT, Nat.reduceLeDiff, cmul_r, cdiv_r, tSl, tPart, tNoPart, rEq, rNe, scal_nn, scal_ii, scal_bb, scal_ss, scal_is, scal_si, V.ty.injEq, and_assoc, tyH_non, tyH_bl, tyH_int, tyH_str, tyH_ref, tyO_lst, tyO_IL, tyO_tup, itO_lst, itO_tup, itO_IL, Dw.rIxD, rLenI, rLenH, rLenTH, rLenQ, rLenB, rListI, Dw.rListS, rIntI, rIntB, rSumI, rIsiD, rIsX, tCallS, tMakeS, tMake, tMakeC, tMakeSC, tFld, sFld, HO.ins.injEq, HO.tup.injEq, cxOf_K, nox_K, tr_K, suite_K, rTupleI, rAllB, rAnyB, BL_inj, tChain, wOnly, wAs, wMany, rEqI, rNeI, Dw.rMax2, rMin2, Dw.rIsN, rIsNotN, rStrIn, rStrNotIn, not_true_eq_false, not_false_eq_true, reduceCtorEq, cl_bool, cl_int, cl_str, cl_list, cl_tuple, isB_NoneType_bool, isB_NoneType_int, isB_NoneType_str, isB_NoneType_list, isB_NoneType_tuple, isB_bool_bool, isB_bool_int, isB_bool_str, isB_bool_list, isB_bool_tuple, isB_int_bool, isB_int_int, isB_int_str, isB_int_list, isB_int_tuple, isB_str_bool, isB_str_int, isB_str_str, isB_str_list, isB_str_tuple, isB_list_bool, isB_list_int, isB_list_str, isB_list_list, isB_list_tuple, isB_tuple_bool, isB_tuple_int, isB_tuple_str, isB_tuple_list, isB_tuple_tuple, rSlCI, iRng3, iRev, gCons, gNil, iZip, iEnum, tLc_eq, tFor_eq, iRng1, iRng2, iList, iTup, rSetD, iKeys, tDNewK, Int.reducePow, Int.reduceNeg, iEnumT, e1z, hl1]
    refine ⟨by omega, by omega, fun U hU => ?_⟩
    refine lc_rangeP (R := fun v => -most ≤ v ∧ v ≤ most) (by omega) hU (fun _ => rfl) ?_ fun as H8 asl asr s8 e8 => ?_
    · intro i H9 Q' hi s9 hq
      have e1h := s9 _ _ e1z
      have gi := g (70 + (0 + (i : Int))).toNat (by omega)
      have gj := g (80 + (0 + (i : Int))).toNat (by omega)
      have cmm : CMul 2 most := .inl ⟨by decide, by decide⟩
      try simp only [tSeq, tAsg, tVar, tC, tOp, rI0, rI, tUn, rU, tIfS, tTest, tRet, tRetN, tDrop, tCB, tCons, tNil, tLst, tLstI, tTup, gName, tB, tAnd, tOr, tNot, tAndV, tOrV, tNotV, tIf, tNext, tBreak, tCont, gSub, tCall, tCallN, tAug, ipI, tBML, tBML0, isL_IL, isL_lst, L2.start, List.map_cons, List.map_nil, List.length_cons, List.length_nil, List.cons_append, List.nil_append, List.getElem?_cons_succ, List.getElem?_cons_zero, Option.some.injEq, exists_eq_left', exists_eq_left, exists_and_left, V.int.injEq, V.ref.injEq, V.bl.injEq, V.str.injEq, List.set_cons_zero, List.set_cons_succ, List.cons.injEq, and_true, true_and, Nat.reduceAdd, Nat.reduceSub, List.replicate_succ, List.replicate_zero, rIxI, rIxH, rIxTH, rSetI, rSetH, rCatI, rRepI, rSlI, rAppendI, rExtendI, decide_eq_true_eq, upd_same, IL_inj, HO.lst.injEq, toInts_cons, toInts_nil, Option.map_some, if_true, if_false, Bool.true_eq_false, Bool.false_eq_true, Bool.not_true, Bool.not_false, Bool.not_eq_true', decide_eq_false_iff_not, atI_0, atI_1, atI_2, atI_3, atI_4, Int.reduceToNat, Int.reduceLT, Int.reduceLE, Int.reduceNeg, Int.reducePow, cast_lit, upd_upd, Int.reduceAdd, Int.reduceMul, Int.reduceSub, Nat.reduceLT, Nat.reduceLeDiff, cmul_r, cdiv_r, tSl, tPart, tNoPart, rEq, rNe, scal_nn, scal_ii, scal_bb, scal_ss, scal_is, scal_si, V.ty.injEq, and_assoc, tyH_non, tyH_bl, tyH_int, tyH_str, tyH_ref, tyO_lst, tyO_IL, tyO_tup, itO_lst, itO_tup, itO_IL, Dw.rIxD, rLenI, rLenH, rLenTH, rLenQ, rLenB, rListI, Dw.rListS, rIntI, rIntB, rSumI, rIsiD, rIsX, tCallS, tMakeS, tMake, tMakeC, tMakeSC, tFld, sFld, HO.ins.injEq, HO.tup.injEq, cxOf_K, nox_K, tr_K, suite_K, rTupleI, rAllB, rAnyB, BL_inj, tChain, wOnly, wAs, wMany, rEqI, rNeI, Dw.rMax2, rMin2, Dw.rIsN, rIsNotN, rStrIn, rStrNotIn, not_true_eq_false, not_false_eq_true, reduceCtorEq, cl_bool, cl_int, cl_str, cl_list, cl_tuple, isB_NoneType_bool, isB_NoneType_int, isB_NoneType_str, isB_NoneType_list, isB_NoneType_tuple, isB_bool_bool, isB_bool_int, isB_bool_str, isB_bool_list, isB_bool_tuple, isB_int_bool, isB_int_int, isB_int_str, isB_int_list, isB_int_tuple, isB_str_bool, isB_str_int, isB_str_str, isB_str_list, isB_str_tuple, isB_list_bool, isB_list_int, isB_list_str, isB_list_list, isB_list_tuple, isB_tuple_bool, isB_tuple_int, isB_tuple_str, isB_tuple_list, isB_tuple_tuple, rSlCI, iRng3, iRev, gCons, gNil, iZip, iEnum, tLc_eq, tFor_eq, iRng1, iRng2, iList, iTup, rSetD, iKeys, tDNewK, Int.reducePow, Int.reduceNeg, iEnumT, wipe, e1h, hl1, cmm]
      have md0 := Int.emod_nonneg (ns.getD (70 + (0 + (i : Int))).toNat 0) (show 2 * most + 1 ≠ 0 by omega)
      have md1 := Int.emod_lt_of_pos (ns.getD (70 + (0 + (i : Int))).toNat 0) (show 0 < 2 * most + 1 by omega)
      generalize ns.getD (70 + (0 + (i : Int))).toNat 0 % (2 * most + 1) = dd at md0 md1 ⊢
      refine ⟨by omega, by omega, by omega, line_le (by decide), fun p1 hp1 => ?_⟩
      have sp := same_new hp1 (IL [most, -most, dd - most])
      refine ⟨ns, sp _ _ e1h, by omega, by omega, by omega, by omega, hq _ _ ?_ sp⟩
      exact pick3 (P := fun x => -most ≤ x ∧ x ≤ most) ⟨by omega, by omega⟩ ⟨by omega, by omega⟩ ⟨by omega, by omega⟩ (by omega)
    have asr : ∀ v ∈ as, -most ≤ v ∧ v ≤ most := asr
    have hmsl : (jitZ (ms.map (c * ·)) as).length = ms.length := by unfold jitZ; rw [List.length_map, List.length_range, List.length_map]
    have hj : ∀ (i : Nat) m t, ms[i]? = some m → (jitZ (ms.map (c * ·)) as)[i]? = some t → ∃ e, t = c * m + e ∧ -most ≤ e ∧ e ≤ most := fun i m t h1 h2 => by
      have hi := (List.getElem?_eq_some_iff.mp h1).1
      unfold jitZ at h2
      rw [List.getElem?_map, List.getElem?_range (by rw [List.length_map]; exact hi)] at h2
      cases h2
      have e0 : (ms.map (c * ·)).getD i 0 = c * m := by rw [List.getD_eq_getElem?_getD, List.getElem?_map, h1]; rfl
      refine ⟨as.getD (i % as.length) 0, ?_, ?_⟩
      · show (ms.map (c * ·)).getD i 0 + as.getD (i % as.length) 0 = _
        rw [e0]
      · exact asr _ (Dw.getD_mem (Nat.mod_lt _ (by omega)))
    have okj : OkRead (jitZ (ms.map (c * ·)) as) (c * (z : Int)) := ⟨by omega, fun t ht => by
      obtain ⟨i, hi, rfl⟩ := List.getElem_of_mem ht
      have hi2 : i < ms.length := by omega
      obtain ⟨e, h1, h2, h3⟩ := hj i _ _ (List.getElem?_eq_getElem hi2) (List.getElem?_eq_getElem hi)
      have := hcm _ (hms _ (List.getElem_mem hi2))
      rw [h1]
      exact ⟨by omega, by omega⟩, cz0, by omega⟩
    have hfp : fixedP (jitZ (ms.map (c * ·)) as) c = onesZ ms := fixed_ones (by omega) hmsl fun i m t h1 h2 => by
      obtain ⟨e, h3, h4, h5⟩ := hj i m t h1 h2
      exact ⟨hm1 m (List.mem_of_getElem? h1), e, h3, by omega, by omega⟩
    have hnr : nCells (c * (z : Int)) c = z := by
      have := nCells_mul (c := c) (m := (z : Int)) (e := 0) (by omega) (by omega) (by omega)
      rw [Int.add_zero] at this
      exact this
    refine ⟨rd, U, _, as, _, rfl, hrd7.same s8, okr, e8, by omega, by omega, fun _ r3 H9 s9 n9 hrd3 => ?_, fun no => absurd okj no⟩
    refine ⟨r3, c, _, _, rfl, hrd3, okj, fun _ => ⟨?_, fun u3 Ha sa na ea => ?_⟩, fun no => absurd oc no⟩
    · unfold Few
      rw [hfp, hnr]
      omega
    have efz : fixedZ (jitZ (ms.map (c * ·)) as) (c * (z : Int)) c = onesZ ms ++ List.replicate z 0 := by
      have e : fixedZ (jitZ (ms.map (c * ·)) as) (c * (z : Int)) c = fixedP (jitZ (ms.map (c * ·)) as) c ++ List.replicate (nCells (c * (z : Int)) c).toNat 0 := rfl
      rw [e, hfp, hnr, Int.toNat_natCast]
    rw [efz] at ea
    exact ⟨u3, a3, _, rfl, ea, sa _ _ (s9 _ _ (s8 _ _ e3z)), k _⟩
end
theorem all_mk {l : PySem.W.OpenLaw} {w : World} {K : PySem.W.Frag} {h : Heap} {mg : Str → Option Value} {fa f1 f2 f3 f4 f5 f6 f7 f8 f9 f10 f11 f12 f13 f14 f15 C_Read C_InvalidRead C_InvalidCell : Addr} (X : K.In h) (G : h.Ns mainGlobals mg) (hfa : mg "law" = some (.ref fa))
    {od1 an1 od2 an2 od3 an3 od4 an4 od5 an5 od6 an6 od7 an7 od8 an8 od9 an9 od10 an10 od11 an11 od12 an12 od13 an13 od14 an14 od15 an15 : Option Addr} {sl1 sl2 sl3 sl4 sl5 sl6 sl7 sl8 sl9 sl10 sl11 sl12 sl13 sl14 sl15 : Array (Option Value)} {oc1 kV1 dc1 pm1 cd1 ct1 oc2 kV2 dc2 pm2 cd2 ct2 oc3 kV3 dc3 pm3 cd3 ct3 oc4 kV4 dc4 pm4 cd4 ct4 oc5 kV5 dc5 pm5 cd5 ct5 oc6 kV6 dc6 pm6 cd6 ct6 oc7 kV7 dc7 pm7 cd7 ct7 oc8 kV8 dc8 pm8 cd8 ct8 oc9 kV9 dc9 pm9 cd9 ct9 oc10 kV10 dc10 pm10 cd10 ct10 oc11 kV11 dc11 pm11 cd11 ct11 oc12 kV12 dc12 pm12 cd12 ct12 oc13 kV13 dc13 pm13 cd13 ct13 oc14 kV14 dc14 pm14 cd14 ct14 oc15 kV15 dc15 pm15 cd15 ct15 u_MOST_INTERVALS u_MOST_TICKS u_LEAST_CELL u_GREATEST_CELL u_GREATEST_PART : Value}
    (ac_Read : PySem.W.nsIn K mainGlobals "Read" = some (some (.ref C_Read))) (pg_Read : PySem.W.plainGet K C_Read Str.empty = true) (hd_Read : PySem.W.hasDictIn K C_Read = true) (po_Read : PySem.W.plainOver K C_Read = true) (sa_Read : PySem.W.findIn K (.ref C_Read) "__setattr__" = some (some (.builtin "object.__setattr__"))) (mk_Read : PySem.W.makesIn K C_Read = true) (kc_Read : PySem.W.keepIn K (.ref C_Read) = true)
    (na_Read_intervals : PySem.W.findIn K (.ref C_Read) "intervals" = some none)
    (na_Read_rest : PySem.W.findIn K (.ref C_Read) "rest" = some none)
    (cn_MOST_INTERVALS : PySem.W.nsIn K mainGlobals "MOST_INTERVALS" = some (some u_MOST_INTERVALS)) (rl_MOST_INTERVALS : RelV (.int 60000) u_MOST_INTERVALS)
    (cn_MOST_TICKS : PySem.W.nsIn K mainGlobals "MOST_TICKS" = some (some u_MOST_TICKS)) (rl_MOST_TICKS : RelV (.int 1000000) u_MOST_TICKS)
    (cn_LEAST_CELL : PySem.W.nsIn K mainGlobals "LEAST_CELL" = some (some u_LEAST_CELL)) (rl_LEAST_CELL : RelV (.int 10) u_LEAST_CELL)
    (cn_GREATEST_CELL : PySem.W.nsIn K mainGlobals "GREATEST_CELL" = some (some u_GREATEST_CELL)) (rl_GREATEST_CELL : RelV (.int 1000) u_GREATEST_CELL)
    (cn_GREATEST_PART : PySem.W.nsIn K mainGlobals "GREATEST_PART" = some (some u_GREATEST_PART)) (rl_GREATEST_PART : RelV (.int 1000) u_GREATEST_PART)
    (j1 : PySem.W.isFn K (.ref f1) = true)
    (a1 : PySem.W.findIn K (.ref C_Read) "__init__" = some (some (.ref f1))) (l1 : K.lookup f1 = some ⟨oc1, od1, .func (PySem.W.fnOf "__init__" "Read.__init__" (defArgs s_Readinit) (defBody s_Readinit) (defScope s_Readinit) .none kV1 dc1 pm1 an1 cd1 ct1), sl1⟩) (c1 : PySem.W.codeIn K cd1 "Read.__init__" = true) (k1 : PySem.W.keepIn K (.ref f1) = true)
    (a2 : PySem.W.nsIn K mainGlobals "is_cell" = some (some (.ref f2))) (l2 : K.lookup f2 = some ⟨oc2, od2, .func (PySem.W.fnOf "is_cell" "is_cell" (defArgs s_is_cell) (defBody s_is_cell) (defScope s_is_cell) .none kV2 dc2 pm2 an2 cd2 ct2), sl2⟩) (c2 : PySem.W.codeIn K cd2 "is_cell" = true) (k2 : PySem.W.keepIn K (.ref f2) = true)
    (a3 : PySem.W.nsIn K mainGlobals "check_cell" = some (some (.ref f3))) (l3 : K.lookup f3 = some ⟨oc3, od3, .func (PySem.W.fnOf "check_cell" "check_cell" (defArgs s_check_cell) (defBody s_check_cell) (defScope s_check_cell) .none kV3 dc3 pm3 an3 cd3 ct3), sl3⟩) (c3 : PySem.W.codeIn K cd3 "check_cell" = true) (k3 : PySem.W.keepIn K (.ref f3) = true)
    (a4 : PySem.W.nsIn K mainGlobals "flux_of" = some (some (.ref f4))) (l4 : K.lookup f4 = some ⟨oc4, od4, .func (PySem.W.fnOf "flux_of" "flux_of" (defArgs s_flux_of) (defBody s_flux_of) (defScope s_flux_of) .none kV4 dc4 pm4 an4 cd4 ct4), sl4⟩) (c4 : PySem.W.codeIn K cd4 "flux_of" = true) (k4 : PySem.W.keepIn K (.ref f4) = true)
    (a5 : PySem.W.nsIn K mainGlobals "fixed_cells" = some (some (.ref f5))) (l5 : K.lookup f5 = some ⟨oc5, od5, .func (PySem.W.fnOf "fixed_cells" "fixed_cells" (defArgs s_fixed_cells) (defBody s_fixed_cells) (defScope s_fixed_cells) .none kV5 dc5 pm5 an5 cd5 ct5), sl5⟩) (c5 : PySem.W.codeIn K cd5 "fixed_cells" = true) (k5 : PySem.W.keepIn K (.ref f5) = true)
    (a6 : PySem.W.nsIn K mainGlobals "following_cells" = some (some (.ref f6))) (l6 : K.lookup f6 = some ⟨oc6, od6, .func (PySem.W.fnOf "following_cells" "following_cells" (defArgs s_following_cells) (defBody s_following_cells) (defScope s_following_cells) .none kV6 dc6 pm6 an6 cd6 ct6), sl6⟩) (c6 : PySem.W.codeIn K cd6 "following_cells" = true) (k6 : PySem.W.keepIn K (.ref f6) = true)
    (a7 : PySem.W.nsIn K mainGlobals "jittered" = some (some (.ref f7))) (l7 : K.lookup f7 = some ⟨oc7, od7, .func (PySem.W.fnOf "jittered" "jittered" (defArgs s_jittered) (defBody s_jittered) (defScope s_jittered) .none kV7 dc7 pm7 an7 cd7 ct7), sl7⟩) (c7 : PySem.W.codeIn K cd7 "jittered" = true) (k7 : PySem.W.keepIn K (.ref f7) = true)
    (a8 : PySem.W.nsIn K mainGlobals "scaled" = some (some (.ref f8))) (l8 : K.lookup f8 = some ⟨oc8, od8, .func (PySem.W.fnOf "scaled" "scaled" (defArgs s_scaled) (defBody s_scaled) (defScope s_scaled) .none kV8 dc8 pm8 an8 cd8 ct8), sl8⟩) (c8 : PySem.W.codeIn K cd8 "scaled" = true) (k8 : PySem.W.keepIn K (.ref f8) = true)
    (a9 : PySem.W.nsIn K mainGlobals "at_speed" = some (some (.ref f9))) (l9 : K.lookup f9 = some ⟨oc9, od9, .func (PySem.W.fnOf "at_speed" "at_speed" (defArgs s_at_speed) (defBody s_at_speed) (defScope s_at_speed) .none kV9 dc9 pm9 an9 cd9 ct9), sl9⟩) (c9 : PySem.W.codeIn K cd9 "at_speed" = true) (k9 : PySem.W.keepIn K (.ref f9) = true)
    (a10 : PySem.W.nsIn K mainGlobals "_law_cell" = some (some (.ref f10))) (l10 : K.lookup f10 = some ⟨oc10, od10, .func (PySem.W.fnOf "_law_cell" "_law_cell" (defArgs s_law_cell) (defBody s_law_cell) (defScope s_law_cell) .none kV10 dc10 pm10 an10 cd10 ct10), sl10⟩) (c10 : PySem.W.codeIn K cd10 "_law_cell" = true) (k10 : PySem.W.keepIn K (.ref f10) = true)
    (a11 : PySem.W.nsIn K mainGlobals "_law_draws" = some (some (.ref f11))) (l11 : K.lookup f11 = some ⟨oc11, od11, .func (PySem.W.fnOf "_law_draws" "_law_draws" (defArgs s_law_draws) (defBody s_law_draws) (defScope s_law_draws) .none kV11 dc11 pm11 an11 cd11 ct11), sl11⟩) (c11 : PySem.W.codeIn K cd11 "_law_draws" = true) (k11 : PySem.W.keepIn K (.ref f11) = true)
    (a12 : PySem.W.nsIn K mainGlobals "_law_is_int" = some (some (.ref f12))) (l12 : K.lookup f12 = some ⟨oc12, od12, .func (PySem.W.fnOf "_law_is_int" "_law_is_int" (defArgs s_law_is_int) (defBody s_law_is_int) (defScope s_law_is_int) .none kV12 dc12 pm12 an12 cd12 ct12), sl12⟩) (c12 : PySem.W.codeIn K cd12 "_law_is_int" = true) (k12 : PySem.W.keepIn K (.ref f12) = true)
    (a13 : PySem.W.nsIn K mainGlobals "_law_ints" = some (some (.ref f13))) (l13 : K.lookup f13 = some ⟨oc13, od13, .func (PySem.W.fnOf "_law_ints" "_law_ints" (defArgs s_law_ints) (defBody s_law_ints) (defScope s_law_ints) .none kV13 dc13 pm13 an13 cd13 ct13), sl13⟩) (c13 : PySem.W.codeIn K cd13 "_law_ints" = true) (k13 : PySem.W.keepIn K (.ref f13) = true)
    (a14 : PySem.W.nsIn K mainGlobals "_law_is_list" = some (some (.ref f14))) (l14 : K.lookup f14 = some ⟨oc14, od14, .func (PySem.W.fnOf "_law_is_list" "_law_is_list" (defArgs s_law_is_list) (defBody s_law_is_list) (defScope s_law_is_list) .none kV14 dc14 pm14 an14 cd14 ct14), sl14⟩) (c14 : PySem.W.codeIn K cd14 "_law_is_list" = true) (k14 : PySem.W.keepIn K (.ref f14) = true)
    (a15 : PySem.W.nsIn K mainGlobals "law" = some (some (.ref f15))) (l15 : K.lookup f15 = some ⟨oc15, od15, .func (PySem.W.fnOf "law" "law" (defArgs s_law) (defBody s_law) (defScope s_law) .none kV15 dc15 pm15 an15 cd15 ct15), sl15⟩) (c15 : PySem.W.codeIn K cd15 "law" = true) (k15 : PySem.W.keepIn K (.ref f15) = true)
    (z_all : PySem.W.nsIn K mainGlobals "all" = some none)
    (z_bool : PySem.W.nsIn K mainGlobals "bool" = some none)
    (z_enumerate : PySem.W.nsIn K mainGlobals "enumerate" = some none)
    (z_int : PySem.W.nsIn K mainGlobals "int" = some none)
    (z_isinstance : PySem.W.nsIn K mainGlobals "isinstance" = some none)
    (z_len : PySem.W.nsIn K mainGlobals "len" = some none)
    (z_list : PySem.W.nsIn K mainGlobals "list" = some none)
    (z_max : PySem.W.nsIn K mainGlobals "max" = some none)
    (z_min : PySem.W.nsIn K mainGlobals "min" = some none)
    (z_range : PySem.W.nsIn K mainGlobals "range" = some none)
    (z_tuple : PySem.W.nsIn K mainGlobals "tuple" = some none)
    (a_InvalidRead : PySem.W.nsIn K mainGlobals "InvalidRead" = some (some (.ref C_InvalidRead))) (x_InvalidRead : PySem.W.excIn K C_InvalidRead [.type "ValueError", .type "Exception", .type "BaseException", .type "object"] "ValueError.__new__" = true) (k_InvalidRead : PySem.W.keepIn K (.ref C_InvalidRead) = true) (b_InvalidRead : PySem.W.subIn K (.ref C_InvalidRead) (.type "BaseException") = some true) (t_InvalidRead : PySem.W.typeIn K (.ref C_InvalidRead) = some (.type "type")) (i_InvalidRead : PySem.W.isClsIn K C_InvalidRead = true) (s_InvalidRead : PySem.W.subIn K (.ref C_InvalidRead) (.ref C_InvalidRead) = some true)
    (a_InvalidCell : PySem.W.nsIn K mainGlobals "InvalidCell" = some (some (.ref C_InvalidCell))) (x_InvalidCell : PySem.W.excIn K C_InvalidCell [.type "ValueError", .type "Exception", .type "BaseException", .type "object"] "ValueError.__new__" = true) (k_InvalidCell : PySem.W.keepIn K (.ref C_InvalidCell) = true) (b_InvalidCell : PySem.W.subIn K (.ref C_InvalidCell) (.type "BaseException") = some true) (t_InvalidCell : PySem.W.typeIn K (.ref C_InvalidCell) = some (.type "type")) (i_InvalidCell : PySem.W.isClsIn K C_InvalidCell = true) (s_InvalidCell : PySem.W.subIn K (.ref C_InvalidCell) (.ref C_InvalidCell) = some true)
    : ∃ fd : FuncData, (∀ (s : Shared) (v : Value), BindsTo s fd ⟨[v], []⟩ [("script", v)]) ∧ ∀ base : Heap, K.In base → base.Ns mainGlobals mg → FnOk l.prog w K mg base CX0 4 fa fd ["script"] (spLaw K) := by
  have e := hfa.symm.trans (PySem.W.mg_of X G a15)
  cases e
  have F1 := fun_mk (st := s_Readinit) l1 c1 k1
  have b1 := F1.binds (ps := ["self", "intervals", "rest"]) fun _ _ _ _ _ _ us hl => match us, hl with | [_, _, _], _ => rfl
  have F2 := fun_mk (st := s_is_cell) l2 c2 k2
  have b2 := F2.binds (ps := ["cell"]) fun _ _ _ _ _ _ us hl => match us, hl with | [_], _ => rfl
  have F3 := fun_mk (st := s_check_cell) l3 c3 k3
  have b3 := F3.binds (ps := ["cell"]) fun _ _ _ _ _ _ us hl => match us, hl with | [_], _ => rfl
  have F4 := fun_mk (st := s_flux_of) l4 c4 k4
  have b4 := F4.binds (ps := ["cells", "cell"]) fun _ _ _ _ _ _ us hl => match us, hl with | [_, _], _ => rfl
  have F5 := fun_mk (st := s_fixed_cells) l5 c5 k5
  have b5 := F5.binds (ps := ["read", "cell"]) fun _ _ _ _ _ _ us hl => match us, hl with | [_, _], _ => rfl
  have F6 := fun_mk (st := s_following_cells) l6 c6 k6
  have b6 := F6.binds (ps := ["read", "cell"]) fun _ _ _ _ _ _ us hl => match us, hl with | [_, _], _ => rfl
  have F7 := fun_mk (st := s_jittered) l7 c7 k7
  have b7 := F7.binds (ps := ["read", "amounts"]) fun _ _ _ _ _ _ us hl => match us, hl with | [_, _], _ => rfl
  have F8 := fun_mk (st := s_scaled) l8 c8 k8
  have b8 := F8.binds (ps := ["ticks", "p", "q"]) fun _ _ _ _ _ _ us hl => match us, hl with | [_, _, _], _ => rfl
  have F9 := fun_mk (st := s_at_speed) l9 c9 k9
  have b9 := F9.binds (ps := ["read", "p", "q"]) fun _ _ _ _ _ _ us hl => match us, hl with | [_, _, _], _ => rfl
  have F10 := fun_mk (st := s_law_cell) l10 c10 k10
  have b10 := F10.binds (ps := ["script", "k"]) fun _ _ _ _ _ _ us hl => match us, hl with | [_, _], _ => rfl
  have F11 := fun_mk (st := s_law_draws) l11 c11 k11
  have b11 := F11.binds (ps := ["cell", "count"]) fun _ _ _ _ _ _ us hl => match us, hl with | [_, _], _ => rfl
  have F12 := fun_mk (st := s_law_is_int) l12 c12 k12
  have b12 := F12.binds (ps := ["x"]) fun _ _ _ _ _ _ us hl => match us, hl with | [_], _ => rfl
  have F13 := fun_mk (st := s_law_ints) l13 c13 k13
  have b13 := F13.binds (ps := ["x", "kind"]) fun _ _ _ _ _ _ us hl => match us, hl with | [_, _], _ => rfl
  have F14 := fun_mk (st := s_law_is_list) l14 c14 k14
  have b14 := F14.binds (ps := ["x", "due"]) fun _ _ _ _ _ _ us hl => match us, hl with | [_, _], _ => rfl
  have F15 := fun_mk (st := s_law) l15 c15 k15
  have b15 := F15.binds (ps := ["script"]) fun _ _ _ _ _ _ us hl => match us, hl with | [_], _ => rfl
  have T : Tx K mg ⟨f1, _, f2, _, f3, _, f4, _, f5, _, f6, _, f7, _, f8, _, f9, _, f10, _, f11, _, f12, _, f13, _, f14, _, fa, _, u_MOST_INTERVALS, u_MOST_TICKS, u_LEAST_CELL, u_GREATEST_CELL, u_GREATEST_PART, C_Read, C_InvalidRead, C_InvalidCell⟩ := { F_Readinit := F1, b_Readinit := b1, mk_Read := ⟨mk_Read, a1, j1, kc_Read⟩, F_is_cell := F2, b_is_cell := b2, g_is_cell := PySem.W.mg_of X G a2, F_check_cell := F3, b_check_cell := b3, g_check_cell := PySem.W.mg_of X G a3, F_flux_of := F4, b_flux_of := b4, g_flux_of := PySem.W.mg_of X G a4, F_fixed_cells := F5, b_fixed_cells := b5, g_fixed_cells := PySem.W.mg_of X G a5, F_following_cells := F6, b_following_cells := b6, g_following_cells := PySem.W.mg_of X G a6, F_jittered := F7, b_jittered := b7, g_jittered := PySem.W.mg_of X G a7, F_scaled := F8, b_scaled := b8, g_scaled := PySem.W.mg_of X G a8, F_at_speed := F9, b_at_speed := b9, g_at_speed := PySem.W.mg_of X G a9, F_law_cell := F10, b_law_cell := b10, g_law_cell := PySem.W.mg_of X G a10, F_law_draws := F11, b_law_draws := b11, g_law_draws := PySem.W.mg_of X G a11, F_law_is_int := F12, b_law_is_int := b12, g_law_is_int := PySem.W.mg_of X G a12, F_law_ints := F13, b_law_ints := b13, g_law_ints := PySem.W.mg_of X G a13, F_law_is_list := F14, b_law_is_list := b14, g_law_is_list := PySem.W.mg_of X G a14, F_law := F15, b_law := b15, g_law := PySem.W.mg_of X G a15, z_all := PySem.W.mg_none_of X G z_all, z_bool := PySem.W.mg_none_of X G z_bool, z_enumerate := PySem.W.mg_none_of X G z_enumerate, z_int := PySem.W.mg_none_of X G z_int, z_isinstance := PySem.W.mg_none_of X G z_isinstance, z_len := PySem.W.mg_none_of X G z_len, z_list := PySem.W.mg_none_of X G z_list, z_max := PySem.W.mg_none_of X G z_max, z_min := PySem.W.mg_none_of X G z_min, z_range := PySem.W.mg_none_of X G z_range, z_tuple := PySem.W.mg_none_of X G z_tuple, c_MOST_INTERVALS := PySem.W.mg_of X G cn_MOST_INTERVALS, r_MOST_INTERVALS := rl_MOST_INTERVALS, c_MOST_TICKS := PySem.W.mg_of X G cn_MOST_TICKS, r_MOST_TICKS := rl_MOST_TICKS, c_LEAST_CELL := PySem.W.mg_of X G cn_LEAST_CELL, r_LEAST_CELL := rl_LEAST_CELL, c_GREATEST_CELL := PySem.W.mg_of X G cn_GREATEST_CELL, r_GREATEST_CELL := rl_GREATEST_CELL, c_GREATEST_PART := PySem.W.mg_of X G cn_GREATEST_PART, r_GREATEST_PART := rl_GREATEST_PART, gc_Read := PySem.W.mg_of X G ac_Read, cl_Read := ⟨pg_Read, hd_Read, po_Read, sa_Read⟩, na_Read_intervals := na_Read_intervals, na_Read_rest := na_Read_rest, x_InvalidRead := ⟨PySem.W.mg_of X G a_InvalidRead, x_InvalidRead, k_InvalidRead, b_InvalidRead, t_InvalidRead, exm_selfD b_InvalidRead i_InvalidRead t_InvalidRead s_InvalidRead⟩, x_InvalidCell := ⟨PySem.W.mg_of X G a_InvalidCell, x_InvalidCell, k_InvalidCell, b_InvalidCell, t_InvalidCell, exm_selfD b_InvalidCell i_InvalidCell t_InvalidCell s_InvalidCell⟩ }
  exact ⟨_, fun s v => .of_eq rfl, fun base _ _ => ok_law T⟩
end K83
open PySem PySem.W PyProof.Rows
set_option maxRecDepth 100000 in
set_option maxHeartbeats 0 in
theorem PySem.Challenge.cw_discwright_k83_whole_clocks_withstand_no_holds : PySem.Challenge.rw_discwright_k83_whole_clocks_withstand_no.Holds := by
  w_on; o_law; k_head; (case hw => w_witness2)
  k_fill
  refine L2.walk_of (l := PySem.Challenge.rw_discwright_k83_whole_clocks_withstand_no) (n := 63) (k := 4) (x := "script") (CX := fun _ => L2.CX0) (sp := fun w => K83.spLaw _) rfl (by decide) rfl ⟨rfl, by decide, by decide⟩ (fun w h Y => PySem.W.kIn_of Y) ?F (fun _ _ a ns hl _ hS => ⟨a, ns, rfl, hS, hl, fun _ => rfl⟩) (fun _ _ _ _ _ h => h)
  case F =>
    intro w mg fa h KX G hmg
    refine' K83.all_mk KX G hmg ?ac_Read ?pg_Read ?hd_Read ?po_Read ?sa_Read ?mk_Read ?kc_Read ?na_Read_intervals ?na_Read_rest ?cn_MOST_INTERVALS ?rl_MOST_INTERVALS ?cn_MOST_TICKS ?rl_MOST_TICKS ?cn_LEAST_CELL ?rl_LEAST_CELL ?cn_GREATEST_CELL ?rl_GREATEST_CELL ?cn_GREATEST_PART ?rl_GREATEST_PART ?j1 ?a1 ?l1 ?c1 ?k1 ?a2 ?l2 ?c2 ?k2 ?a3 ?l3 ?c3 ?k3 ?a4 ?l4 ?c4 ?k4 ?a5 ?l5 ?c5 ?k5 ?a6 ?l6 ?c6 ?k6 ?a7 ?l7 ?c7 ?k7 ?a8 ?l8 ?c8 ?k8 ?a9 ?l9 ?c9 ?k9 ?a10 ?l10 ?c10 ?k10 ?a11 ?l11 ?c11 ?k11 ?a12 ?l12 ?c12 ?k12 ?a13 ?l13 ?c13 ?k13 ?a14 ?l14 ?c14 ?k14 ?a15 ?l15 ?c15 ?k15 ?z_all ?z_bool ?z_enumerate ?z_int ?z_isinstance ?z_len ?z_list ?z_max ?z_min ?z_range ?z_tuple ?a_InvalidRead ?x_InvalidRead ?k_InvalidRead ?b_InvalidRead ?t_InvalidRead ?i_InvalidRead ?s_InvalidRead ?a_InvalidCell ?x_InvalidCell ?k_InvalidCell ?b_InvalidCell ?t_InvalidCell ?i_InvalidCell ?s_InvalidCell
    (case ac_Read => k_is)
    (case pg_Read => k_is)
    (case hd_Read => k_is)
    (case po_Read => k_is)
    (case sa_Read => k_is)
    (case mk_Read => k_is)
    (case kc_Read => k_is)
    (case na_Read_intervals => k_is)
    (case na_Read_rest => k_is)
    (case cn_MOST_INTERVALS => k_is)
    (case rl_MOST_INTERVALS => first | exact ⟨_, rfl⟩ | rfl)
    (case cn_MOST_TICKS => k_is)
    (case rl_MOST_TICKS => first | exact ⟨_, rfl⟩ | rfl)
    (case cn_LEAST_CELL => k_is)
    (case rl_LEAST_CELL => first | exact ⟨_, rfl⟩ | rfl)
    (case cn_GREATEST_CELL => k_is)
    (case rl_GREATEST_CELL => first | exact ⟨_, rfl⟩ | rfl)
    (case cn_GREATEST_PART => k_is)
    (case rl_GREATEST_PART => first | exact ⟨_, rfl⟩ | rfl)
    (case a1 => k_is)
    (case j1 => k_is)
    (case l1 => k_is)
    (case c1 => k_is)
    (case k1 => k_is)
    (case a2 => k_is)
    (case l2 => k_is)
    (case c2 => k_is)
    (case k2 => k_is)
    (case a3 => k_is)
    (case l3 => k_is)
    (case c3 => k_is)
    (case k3 => k_is)
    (case a4 => k_is)
    (case l4 => k_is)
    (case c4 => k_is)
    (case k4 => k_is)
    (case a5 => k_is)
    (case l5 => k_is)
    (case c5 => k_is)
    (case k5 => k_is)
    (case a6 => k_is)
    (case l6 => k_is)
    (case c6 => k_is)
    (case k6 => k_is)
    (case a7 => k_is)
    (case l7 => k_is)
    (case c7 => k_is)
    (case k7 => k_is)
    (case a8 => k_is)
    (case l8 => k_is)
    (case c8 => k_is)
    (case k8 => k_is)
    (case a9 => k_is)
    (case l9 => k_is)
    (case c9 => k_is)
    (case k9 => k_is)
    (case a10 => k_is)
    (case l10 => k_is)
    (case c10 => k_is)
    (case k10 => k_is)
    (case a11 => k_is)
    (case l11 => k_is)
    (case c11 => k_is)
    (case k11 => k_is)
    (case a12 => k_is)
    (case l12 => k_is)
    (case c12 => k_is)
    (case k12 => k_is)
    (case a13 => k_is)
    (case l13 => k_is)
    (case c13 => k_is)
    (case k13 => k_is)
    (case a14 => k_is)
    (case l14 => k_is)
    (case c14 => k_is)
    (case k14 => k_is)
    (case a15 => k_is)
    (case l15 => k_is)
    (case c15 => k_is)
    (case k15 => k_is)
    (case z_all => k_is)
    (case z_bool => k_is)
    (case z_enumerate => k_is)
    (case z_int => k_is)
    (case z_isinstance => k_is)
    (case z_len => k_is)
    (case z_list => k_is)
    (case z_max => k_is)
    (case z_min => k_is)
    (case z_range => k_is)
    (case z_tuple => k_is)
    (case a_InvalidRead => k_is)
    (case x_InvalidRead => k_exc)
    (case k_InvalidRead => k_is)
    (case b_InvalidRead => k_is)
    (case t_InvalidRead => k_is)
    (case i_InvalidRead => k_is)
    (case s_InvalidRead => first | rfl | k_is)
    (case a_InvalidCell => k_is)
    (case x_InvalidCell => k_exc)
    (case k_InvalidCell => k_is)
    (case b_InvalidCell => k_is)
    (case t_InvalidCell => k_is)
    (case i_InvalidCell => k_is)
    (case s_InvalidCell => first | rfl | k_is)

