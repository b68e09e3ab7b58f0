import PyProof.Rows.All
import Wide.All
import OpenK.AllK
import Wide.FinOn
import HandS.ForMost
import HandS.IsInst
import HandS.Flow
import HandS.WideBits
import HandS.Defaults
import HandS.Exc
import HandS.ExcOwn
import HandS.TryOnly
import HandS.TryMany
import HandS.WordsExc
import HandS.ExcIs
import HandS.Walk
import HandS.Small
import HandS.Wide
import HandS.Style
import HandS.Strs
import HandS.SetFor
import HandS.Dict
import HandS.Codes
import HandS.OwnEq
import HandS.MakeKwOnly
import KE.GoesMore
import KE.KDictZip
import HandS.SuiteRaise
import HandS.TupAny
import HandS.Zip
import HandS.Deep
import PyProof.StrLawsFirst
import HandS.Text
import HandS.StrMore
import HandS.More
import PySem.Challenge.RW_discwright_k75_bytes_of_patches
set_option Elab.async false
set_option linter.all false
set_option maxRecDepth 100000
set_option maxHeartbeats 4000000
namespace Dw
open PySem PySem.Spec PyProof.Rows L2
/-! ### sizes -/
theorem line_le {n : Nat} (h : n ≤ 16777216) : n ≤ sizeLine := by rw [sizeLine_eq]; exact h
theorem line_lt {n : Nat} (h : n < 16777216) : n < sizeLine := by rw [sizeLine_eq]; exact h
/-! ### heaps -/
theorem same_new {H : Hp} {p : Addr} (h : H p = none) (o : HO) : Same H (upd H p o) := fun b u q => by rw [upd_ne (ne_of_none q h)]; exact q
/-- all but P stands as it was -/
def SameB (P : Addr) (H H' : Hp) : Prop := ∀ b o, b ≠ P → H b = some o → H' b = some o
theorem SameB.refl (P : Addr) (H : Hp) : SameB P H H := fun _ _ _ h => h
theorem SameB.trans {P : Addr} {H H1 H2 : Hp} (a : SameB P H H1) (b : SameB P H1 H2) : SameB P H H2 := fun x o n h => b x o n (a x o n h)
theorem Same.b {P : Addr} {H H' : Hp} (a : Same H H') : SameB P H H' := fun x o _ h => a x o h
theorem sameB_upd {P : Addr} {H : Hp} (o : HO) : SameB P H (upd H P o) := fun b u n q => by rw [upd_ne n]; exact q
/-- a ghost heap without P stands in what was changed at P alone -/
theorem Same.but {P : Addr} {G H H' : Hp} (g : Same G H) (n : G P = none) (s : SameB P H H') : Same G H' := fun b o q => s b o (ne_of_none q n) (g b o q)
theorem same_upd {G H : Hp} {p : Addr} {o : HO} (g : Same G H) : Same (upd G p o) (upd H p o) := fun b u q => by
  by_cases e : b = p
  · subst e
    rw [upd_same] at q ⊢
    exact q
  · rw [upd_ne e] at q ⊢
    exact g b u q
theorem same_none {G H : Hp} {p : Addr} (g : Same G H) (h : H p = none) : G p = none := by
  cases e : G p with
  | none => rfl
  | some o => rw [g p o e] at h; cases h
theorem upd_none {G : Hp} {p P : Addr} {o : HO} (n : G P = none) (ne : P ≠ p) : upd G p o P = none := by rw [upd_ne ne]; exact n
/-! ### the script -/
/-- the pool at p: the script's numbers at q, and four numbers -/
def PoolL (q : Addr) (a b c d : Int) : HO := .lst [.ref q, .int a, .int b, .int c, .int d]
def Pool (H : Hp) (p q : Addr) : Prop := ∃ (ns : List Int) (a b c d : Int), H p = some (PoolL q a b c d) ∧ H q = some (.lst (ns.map V.int)) ∧ 0 ≤ a ∧ ns.length ≤ 63
theorem Pool.same {H H' : Hp} {p q : Addr} (h : Pool H p q) (s : Same H H') : Pool H' p q := by
  obtain ⟨ns, a, b, c, d, h1, h2, h3⟩ := h
  exact ⟨ns, a, b, c, d, s _ _ h1, s _ _ h2, h3⟩
theorem Pool.there {H : Hp} {p q : Addr} (h : Pool H p q) : ∃ o, H p = some o := by
  obtain ⟨ns, a, b, c, d, h1, _⟩ := h
  exact ⟨_, h1⟩
theorem Pool.ne {H : Hp} {p q r : Addr} (h : Pool H p q) (n : H r = none) : p ≠ r := by
  obtain ⟨o, e⟩ := h.there
  exact ne_of_none e n
theorem Pool.ne2 {H : Hp} {p q r : Addr} (h : Pool H p q) (n : H r = none) : q ≠ r := by
  obtain ⟨ns, a, b, c, d, h1, h2, _⟩ := h
  exact ne_of_none h2 n
theorem pool_ne {H : Hp} {p q : Addr} {a b c d : Int} {ns : List Int} (h1 : H p = some (PoolL q a b c d)) (h2 : H q = some (.lst (ns.map V.int))) : q ≠ p := by
  refine ne_of h2 h1 fun e => ?_
  unfold PoolL at e
  injection e with e
  cases ns with
  | nil => cases e
  | cons x r => rw [List.map_cons] at e; injection e with e _; cases e
/-- a pool's numbers written anew -/
theorem Pool.put {H : Hp} {p q : Addr} {a b c d a' b' c' d' : Int} {ns : List Int} (h1 : H p = some (PoolL q a b c d)) (h2 : H q = some (.lst (ns.map V.int))) (h3 : 0 ≤ a') (h4 : ns.length ≤ 63) : Pool (upd H p (PoolL q a' b' c' d')) p q :=
  ⟨ns, a', b', c', d', upd_same, by rw [upd_ne (pool_ne h1 h2)]; exact h2, h3, h4⟩
/-! ### what the shared defs promise -/
def spPool (K : PySem.W.Frag) : Sp := fun vs H Q _ => ∃ (a : Addr) (ns : List Int), vs = [.ref a] ∧ SqL K H a (ns.map V.int) ∧ ns.length ≤ 63 ∧ ∀ p q H', Same H H' → H p = none → H q = none → Pool H' p q → Q (.ref p) H'
def spSpread : Sp := fun vs H Q _ => ∃ n : Int, vs = [.int n] ∧ ∀ m : Int, Q (.int m) H
def spDraw : Sp := fun vs H Q _ => ∃ (p q : Addr) (m : Int), vs = [.ref p, .int m] ∧ Pool H p q ∧ 0 < m ∧ m < 1073741824 ∧ ∀ r H', 0 ≤ r → r < m → Pool H' p q → SameB p H H' → Q (.int r) H'
/-- a def of whole numbers -/
def spI1 (C : Int → Prop) (g : Int → Int) : Sp := fun vs H Q _ => ∃ n : Int, vs = [.int n] ∧ C n ∧ Q (.int (g n)) H
def spI2 (C : Int → Int → Prop) (g : Int → Int → Int) : Sp := fun vs H Q _ => ∃ n m : Int, vs = [.int n, .int m] ∧ C n m ∧ Q (.int (g n m)) H

/-! ### rules by a stronger reading -/
section
variable {X : Cx}
theorem OpR.imp {f : Value → Value → Sem Value} {r r' : R2} (h : OpR X f r) (i : ∀ x y H Q, r' x y H Q → r x y H Q) : OpR X f r' := fun pins s σ H x y v u Q I rx ry q => h pins s σ H x y v u Q I rx ry (i _ _ _ _ q)
theorem CallR.imp {f : Value} {r r' : List V → Hp → VK → Prop} (h : CallR X f r) (i : ∀ xs H Q, r' xs H Q → r xs H Q) : CallR X f r' := fun pins s σ H xs us Q I r q => h pins s σ H xs us Q I r (i _ _ _ q)
theorem IxR.imp {r r' : R2} (h : IxR X r) (i : ∀ x y H Q, r' x y H Q → r x y H Q) : IxR X r' := fun a b pins s σ H x y v u Q I rx ry q => h a b pins s σ H x y v u Q I rx ry (i _ _ _ _ q)
theorem MtR.imp {id : String} {r r' : V → List V → Hp → VK → Prop} (h : MtR X id r) (i : ∀ x xs H Q, r' x xs H Q → r x xs H Q) : MtR X id r' := fun pins s σ H x xs v us Q I rx ry q => h pins s σ H x xs v us Q I rx ry (i _ _ _ _ q)
theorem SlR.imp {r r' : V → Option Int → Option Int → Hp → VK → Prop} (h : SlR X r) (i : ∀ x lo hi H Q, r' x lo hi H Q → r x lo hi H Q) : SlR X r' := fun pins s σ H x v vl vu lo hi sl Q I rx hs pl pu q => h pins s σ H x v vl vu lo hi sl Q I rx hs pl pu (i _ _ _ _ _ q)
theorem PE.imp {e : Expr} {t t' : TE} (h : PE X e t) (i : ∀ σ H Q, t' σ H Q → t σ H Q) : PE X e t' := ⟨fun pins s σ H Q I q => h.run pins s σ H Q I (i _ _ _ q)⟩
theorem PT.imp {e : Expr} {t t' : TT} (h : PT X e t) (i : ∀ σ H Q, t' σ H Q → t σ H Q) : PT X e t' := ⟨fun pins s σ H Q I q => h.run pins s σ H Q I (i _ _ _ q)⟩
theorem PS.imp {e : Stmt} {t t' : TS} (h : PS X e t) (i : ∀ D σ H, t' D σ H → t D σ H) : PS X e t' := ⟨fun pins s σ H D I q => h.run pins s σ H D I (i _ _ _ q)⟩
theorem PSet.imp {r r' : TSet} (h : PSet X r) (i : ∀ o k v H Q, r' o k v H Q → r o k v H Q) : PSet X r' := fun pins s σ H o k v ov iv u Q I ro ri rv q => h pins s σ H o k v ov iv u Q I ro ri rv (i _ _ _ _ _ q)
/-! ### lists of ints -/
def IL (ns : List Int) : HO := .lst (ns.map V.int)
theorem IL_inj {a b : List Int} : (IL a = IL b) = (a = b) := by
  apply propext
  constructor
  · intro h
    unfold IL at h
    injection h with h
    exact List.map_inj_right (fun x y e => V.int.inj e) |>.mp h
  · intro h
    rw [h]
def toInts : List V → Option (List Int)
  | [] => some []
  | .int i :: r => (toInts r).map (i :: ·)
  | _ => none
theorem toInts_eq : ∀ {xs : List V} {ns : List Int}, toInts xs = some ns → xs = ns.map V.int
  | [], ns, h => by
    unfold toInts at h
    cases h
    rfl
  | .int i :: r, ns, h => by
    unfold toInts at h
    cases e : toInts r with
    | none => rw [e] at h; cases h
    | some ms =>
      rw [e] at h
      cases h
      rw [List.map_cons, toInts_eq e]
  | .non :: _, _, h => by unfold toInts at h; cases h
  | .bl _ :: _, _, h => by unfold toInts at h; cases h
  | .str _ :: _, _, h => by unfold toInts at h; cases h
  | .byt _ :: _, _, h => by unfold toInts at h; cases h
  | .flt _ :: _, _, h => by unfold toInts at h; cases h
  | .ref _ :: _, _, h => by unfold toInts at h; cases h
  | .ty _ :: _, _, h => by unfold toInts at h; cases h
theorem toInts_cons {i : Int} {r : List V} : toInts (.int i :: r) = (toInts r).map (i :: ·) := rfl
theorem toInts_nil : toInts [] = some [] := rfl
def isL : Option HO → Bool
  | some (.lst _) => true
  | _ => false
theorem isL_IL {ns : List Int} : isL (some (IL ns)) = true := rfl
theorem isL_lst {xs : List V} : isL (some (.lst xs)) = true := rfl
theorem isL_of {o : Option HO} (h : isL o = true) : ∃ xs, o = some (.lst xs) := by
  cases o with
  | none => cases h
  | some u =>
    cases u with
    | lst xs => exact ⟨xs, rfl⟩
    | _ => cases h
def rCatI : R2 := fun x y H Q => ∃ l b xs zs, x = .ref l ∧ y = .ref b ∧ H l = some (IL xs) ∧ H b = some (IL zs) ∧ xs.length + zs.length ≤ sizeLine ∧ ∀ p, H p = none → Q (.ref p) (upd H p (IL (xs ++ zs)))
theorem op_catI : OpR X (binaryOp .Add) rCatI := OpR.imp op_cat fun x y H Q h => by
  obtain ⟨l, b, xs, zs, e1, e2, h1, h2, h3, q⟩ := h
  exact ⟨l, b, _, _, e1, e2, h1, h2, by rw [List.length_map, List.length_map]; exact h3, fun p hp => by rw [← List.map_append]; exact q p hp⟩
def rep (k : Int) (xs : List Int) : List Int := (List.replicate k.toNat xs).flatten
theorem rep_one (k : Int) (x : Int) : rep k [x] = List.replicate k.toNat x := by
  unfold rep
  generalize k.toNat = n
  induction n with
  | zero => rfl
  | succ n ih => rw [List.replicate_succ, List.flatten_cons, ih, List.replicate_succ]; rfl
def rRepI : R2 := fun x y H Q => ∃ l k xs, x = .ref l ∧ y = .int k ∧ H l = some (IL xs) ∧ (-(2 ^ 63) ≤ k ∧ k < 2 ^ 63 ∧ xs.length * k.toNat ≤ sizeLine) ∧ ∀ p, H p = none → Q (.ref p) (upd H p (IL (rep k xs)))
theorem map_rep (k : Nat) (xs : List Int) : (List.replicate k (xs.map V.int)).flatten = (List.replicate k xs).flatten.map V.int := by
  induction k with
  | zero => rfl
  | succ n ih => rw [List.replicate_succ, List.flatten_cons, ih, List.replicate_succ, List.flatten_cons, List.map_append]
theorem op_repI : OpR X (binaryOp .Mult) rRepI := OpR.imp op_rep fun x y H Q h => by
  obtain ⟨l, k, xs, e1, e2, h1, ⟨h2, h3, h4⟩, q⟩ := h
  exact ⟨l, k, _, e1, e2, h1, h2, h3, by rw [List.length_map]; exact h4, fun p hp => by rw [map_rep]; exact q p hp⟩
def rIxI : R2 := fun x y H Q => ∃ p ns i, x = .ref p ∧ y = .int i ∧ H p = some (IL ns) ∧ (0 ≤ i ∧ i < (ns.length : Int)) ∧ Q (.int (ns.getD i.toNat 0)) H
theorem atI_int {ns : List Int} {i : Int} (h0 : 0 ≤ i) (h1 : i < (ns.length : Int)) : atI (ns.map V.int) i = some (.int (ns.getD i.toNat 0)) := by
  have hk : i.toNat < ns.length := by omega
  have e : i = ((i.toNat : Nat) : Int) := by omega
  have q : atI (ns.map V.int) ((i.toNat : Nat) : Int) = some (.int (ns.getD i.toNat 0)) := atI_nat (by
    rw [List.getElem?_map, List.getElem?_eq_getElem hk, List.getD_eq_getElem?_getD, List.getElem?_eq_getElem hk]
    rfl)
  rw [← e] at q
  exact q
theorem ix_listI : IxR X rIxI := IxR.imp ix_list fun x y H Q h => by
  obtain ⟨p, ns, i, e1, e2, h1, ⟨h2, h3⟩, q⟩ := h
  exact ⟨p, _, i, _, e1, e2, .of h1, atI_int h2 h3, q⟩
def rIxH : R2 := fun x y H Q => ∃ p xs i v, x = .ref p ∧ y = .int i ∧ H p = some (.lst xs) ∧ atI xs i = some v ∧ Q v H
theorem ix_listH : IxR X rIxH := IxR.imp ix_list fun x y H Q h => by
  obtain ⟨p, xs, i, v, e1, e2, h1, h2, q⟩ := h
  exact ⟨p, _, i, _, e1, e2, .of h1, h2, q⟩
def rIxTH : R2 := fun x y H Q => ∃ p xs i v, x = .ref p ∧ y = .int i ∧ H p = some (.tup xs) ∧ atI xs i = some v ∧ Q v H
theorem ix_tupH : IxR X rIxTH := IxR.imp ix_tup fun x y H Q h => by
  obtain ⟨p, xs, i, v, e1, e2, h1, h2, q⟩ := h
  exact ⟨p, _, i, _, e1, e2, .of h1, h2, q⟩
def cutI (xs : List Int) (lo hi : Option Int) : List Int := (xs.drop (HT.sIx xs.length 0 lo)).take (HT.sIx xs.length xs.length hi - HT.sIx xs.length 0 lo)
theorem cutV_int (ns : List Int) (lo hi : Option Int) : cutV (ns.map V.int) lo hi = (cutI ns lo hi).map V.int := by
  unfold cutV cutI
  rw [List.length_map, List.map_take, List.map_drop]
def rSlI : V → Option Int → Option Int → Hp → VK → Prop := fun x lo hi H Q => ∃ a ns, x = .ref a ∧ H a = some (IL ns) ∧ ∀ p, H p = none → Q (.ref p) (upd H p (IL (cutI ns lo hi)))
theorem sl_listI : SlR X rSlI := SlR.imp sl_list fun x lo hi H Q h => by
  obtain ⟨a, ns, e1, h1, q⟩ := h
  exact ⟨a, _, e1, .of h1, fun p hp => by rw [cutV_int]; exact q p hp⟩
def rSlS (K : PySem.W.Frag) : V → Option Int → Option Int → Hp → VK → Prop := fun x lo hi H Q => ∃ a ns, x = .ref a ∧ SqL K H a (ns.map V.int) ∧ ∀ p, H p = none → Q (.ref p) (upd H p (IL (cutI ns lo hi)))
theorem sl_listS : SlR X (rSlS X.K) := SlR.imp sl_list fun x lo hi H Q h => by
  obtain ⟨a, ns, e1, h1, q⟩ := h
  exact ⟨a, _, e1, h1, fun p hp => by rw [cutV_int]; exact q p hp⟩
def rLenI : List V → Hp → VK → Prop := fun xs H Q => ∃ p ns, xs = [.ref p] ∧ H p = some (IL ns) ∧ Q (.int (ns.length : Int)) H
theorem call_lenI : CallR X (.builtin "len") rLenI := CallR.imp call_len_seq fun xs H Q h => by
  obtain ⟨p, ns, e, h1, q⟩ := h
  exact ⟨p, _, e, .inl (.of h1), by rw [List.length_map]; exact q⟩
def rLenH : List V → Hp → VK → Prop := fun xs H Q => ∃ p ys, xs = [.ref p] ∧ H p = some (.lst ys) ∧ Q (.int (ys.length : Int)) H
theorem call_lenH : CallR X (.builtin "len") rLenH := CallR.imp call_len_seq fun xs H Q h => by
  obtain ⟨p, ns, e, h1, q⟩ := h
  exact ⟨p, _, e, .inl (.of h1), q⟩
def rLenTH : List V → Hp → VK → Prop := fun xs H Q => ∃ p ys, xs = [.ref p] ∧ H p = some (.tup ys) ∧ Q (.int (ys.length : Int)) H
theorem call_lenTH : CallR X (.builtin "len") rLenTH := CallR.imp call_len_seq fun xs H Q h => by
  obtain ⟨p, ns, e, h1, q⟩ := h
  exact ⟨p, _, e, .inr (.of h1), q⟩
def rListI : List V → Hp → VK → Prop := fun xs H Q => ∃ p ns, xs = [.ref p] ∧ H p = some (IL ns) ∧ ∀ l, H l = none → Q (.ref l) (upd H l (IL ns))
theorem call_listI : CallR X (.type "list") rListI := CallR.imp call_list_of fun xs H Q h => by
  obtain ⟨p, ns, e, h1, q⟩ := h
  exact ⟨p, _, e, .inl (.of h1), q⟩
def rListS (K : PySem.W.Frag) : List V → Hp → VK → Prop := fun xs H Q => ∃ p ns, xs = [.ref p] ∧ SqL K H p (ns.map V.int) ∧ ∀ l, H l = none → Q (.ref l) (upd H l (IL ns))
theorem call_listS : CallR X (.type "list") (rListS X.K) := CallR.imp call_list_of fun xs H Q h => by
  obtain ⟨p, ns, e, h1, q⟩ := h
  exact ⟨p, _, e, .inl h1, q⟩
def rIntI : List V → Hp → VK → Prop := fun xs H Q => ∃ i, xs = [.int i] ∧ Q (.int i) H
theorem call_intI : CallR X (.type "int") rIntI := CallR.imp call_int1 fun xs H Q h => .inl h
def rIntB : List V → Hp → VK → Prop := fun xs H Q => ∃ k, xs = [.bl k] ∧ Q (.int (if k = true then 1 else 0)) H
theorem call_intB : CallR X (.type "int") rIntB := CallR.imp call_int1 fun xs H Q h => .inr h
def rSumI : List V → Hp → VK → Prop := fun xs H Q => ∃ p ns, xs = [.ref p] ∧ H p = some (IL ns) ∧ Q (.int ns.sum) H
theorem cr_sumI (hc : X.calm = true) : CallR X (.builtin "sum") rSumI := CallR.imp (cr_sum hc) fun xs H Q h => by
  obtain ⟨p, ns, e, h1, q⟩ := h
  exact ⟨p, _, e, .of h1, q⟩
def rAppendI : V → List V → Hp → VK → Prop := fun x vs H Q => ∃ l xs y, x = .ref l ∧ vs = [.int y] ∧ H l = some (IL xs) ∧ xs.length < sizeLine ∧ Q .non (upd H l (IL (xs ++ [y])))
theorem mt_appendI : MtR X "list.append" rAppendI := MtR.imp mt_append fun x vs H Q h => by
  obtain ⟨l, xs, y, e1, e2, h1, h2, q⟩ := h
  refine ⟨l, _, _, e1, e2, h1, by rw [List.length_map]; exact h2, ?_⟩
  have e : xs.map V.int ++ [V.int y] = (xs ++ [y]).map V.int := by rw [List.map_append]; rfl
  rw [e]
  exact q
def rExtendI : V → List V → Hp → VK → Prop := fun x vs H Q => ∃ l b xs zs, x = .ref l ∧ vs = [.ref b] ∧ H l = some (IL xs) ∧ H b = some (IL zs) ∧ xs.length + zs.length ≤ sizeLine ∧ Q .non (upd H l (IL (xs ++ zs)))
theorem mt_extendI : MtR X "list.extend" rExtendI := MtR.imp mt_extend fun x vs H Q h => by
  obtain ⟨l, b, xs, zs, e1, e2, h1, h2, h3, q⟩ := h
  exact ⟨l, b, _, _, e1, e2, h1, h2, by rw [List.length_map, List.length_map]; exact h3, by rw [← List.map_append]; exact q⟩
def rSetI : TSet := fun o i v H Q => ∃ p ns k y, o = .ref p ∧ i = .int k ∧ v = .int y ∧ H p = some (IL ns) ∧ (0 ≤ k ∧ k < (ns.length : Int)) ∧ Q (upd H p (IL (ns.set k.toNat y)))
theorem ixN_nn {n : Nat} {k : Int} (h0 : 0 ≤ k) (h1 : k < (n : Int)) : ixN n k = some k.toNat := by
  unfold ixN
  rw [if_pos h0, if_pos h1]
theorem set_listI : PSet X rSetI := PSet.imp set_list fun o i v H Q h => by
  obtain ⟨p, ns, k, y, e1, e2, e3, h1, ⟨h2, h3⟩, q⟩ := h
  refine ⟨p, _, k, k.toNat, e1, e2, h1, ixN_nn h2 (by rw [List.length_map]; exact h3), ?_⟩
  rw [e3, ← List.map_set]
  exact q
/-- xs[k] = v of any list at a written place -/
def rSetH : TSet := fun o i v H Q => ∃ p xs k, o = .ref p ∧ i = .int k ∧ H p = some (.lst xs) ∧ (0 ≤ k ∧ k < (xs.length : Int)) ∧ Q (upd H p (.lst (xs.set k.toNat v)))
theorem set_listH : PSet X rSetH := PSet.imp set_list fun o i v H Q h => by
  obtain ⟨p, xs, k, e1, e2, h1, ⟨h2, h3⟩, q⟩ := h
  exact ⟨p, _, k, k.toNat, e1, e2, h1, ixN_nn h2 h3, q⟩
/-! ### == of lists of ints -/
theorem dp_ints {K : PySem.W.Frag} {H : Hp} : ∀ ns : List Int, DpAll K H (ns.map V.int) (ns.map PyData.int)
  | [] => .nil
  | n :: r => .cons (.int n) (dp_ints r)
theorem dp_IL {K : PySem.W.Frag} {H : Hp} {p : Addr} {ns : List Int} (h : H p = some (IL ns)) : Dp K H (.ref p) (.list (ns.map PyData.int)) := .lst (.of h) (dp_ints ns)
theorem eqvAll_ints : ∀ ns ms : List Int, PyData.eqvAll (ns.map PyData.int) (ms.map PyData.int) = decide (ns = ms)
  | [], [] => by
    show PyData.eqvAll [] [] = _
    rw [PyData.eqvAll]
    rfl
  | [], _ :: _ => by
    show PyData.eqvAll [] (_ :: _) = _
    rw [PyData.eqvAll, decide_eq_false (fun e => by cases e)]
  | _ :: _, [] => by
    show PyData.eqvAll (_ :: _) [] = _
    rw [PyData.eqvAll, decide_eq_false (fun e => by cases e)]
  | n :: ns, m :: ms => by
    show PyData.eqvAll (.int n :: ns.map PyData.int) (.int m :: ms.map PyData.int) = _
    rw [PyData.eqvAll, eqvAll_ints ns ms, PyData.eqv]
    by_cases h : n = m
    · subst h
      by_cases h2 : ns = ms
      · subst h2; simp
      · rw [decide_eq_false h2, decide_eq_false (fun e => h2 (List.cons.inj e).2)]; simp
    · rw [decide_eq_false (fun e => h (List.cons.inj e).1)]
      have : (n == m) = false := by simp [h]
      rw [this]; rfl
theorem canLay_ints : ∀ ns : List Int, PyData.canLayAll0 (ns.map PyData.int) = true
  | [] => rfl
  | n :: ns => by
    show PyData.canLayAll0 (.int n :: ns.map PyData.int) = true
    rw [PyData.canLayAll0, canLay_ints ns]; rfl
theorem depthAll_ints : ∀ ns : List Int, PyData.depthAll (ns.map PyData.int) ≤ 1
  | [] => by decide
  | n :: ns => by
    show PyData.depthAll (.int n :: ns.map PyData.int) ≤ 1
    have := depthAll_ints ns
    simp only [PyData.depthAll, PyData.depth]
    omega
theorem shaped_ints (ns : List Int) : SeqAt.shaped (.list (ns.map PyData.int)) = true := by
  have h1 := canLay_ints ns
  have h2 := depthAll_ints ns
  unfold SeqAt.shaped
  rw [Bool.and_eq_true]
  refine ⟨by rw [PyData.canLay0]; exact h1, decide_eq_true ?_⟩
  simp only [PyData.depth]
  omega
def rEqI : R2 := fun x y H Q => ∃ p q ns ms, x = .ref p ∧ y = .ref q ∧ H p = some (IL ns) ∧ H q = some (IL ms) ∧ Q (.bl (decide (ns = ms))) H
theorem op_eqI (hu : X.A.units + 64 < cLine) : OpR X (compareOp .Eq) rEqI := OpR.imp (op_eqD hu) fun x y H Q h => by
  obtain ⟨p, q, ns, ms, rfl, rfl, h1, h2, k⟩ := h
  refine ⟨_, _, dp_IL h1, dp_IL h2, shaped_ints ns, shaped_ints ms, ?_⟩
  rw [PyData.eqv, eqvAll_ints]
  exact k
def rNeI : R2 := fun x y H Q => ∃ p q ns ms, x = .ref p ∧ y = .ref q ∧ H p = some (IL ns) ∧ H q = some (IL ms) ∧ Q (.bl (!decide (ns = ms))) H
theorem op_neI (hu : X.A.units + 64 < cLine) : OpR X (compareOp .NotEq) rNeI := OpR.imp (op_neD hu) fun x y H Q h => by
  obtain ⟨p, q, ns, ms, rfl, rfl, h1, h2, k⟩ := h
  refine ⟨_, _, dp_IL h1, dp_IL h2, shaped_ints ns, shaped_ints ms, ?_⟩
  rw [PyData.eqv, eqvAll_ints]
  exact k
/-! ### displays of ints, methods of lists -/
def rMax2 : List V → Hp → VK → Prop := fun xs H Q => ∃ i j, xs = [.int i, .int j] ∧ Q (.int (max i j)) H
def rMin2 : List V → Hp → VK → Prop := fun xs H Q => ∃ i j, xs = [.int i, .int j] ∧ Q (.int (min i j)) H
theorem max_if (i j : Int) : (if j > i then j else i) = max i j := by
  split <;> omega
theorem min_if (i j : Int) : (if j < i then j else i) = min i j := by
  split <;> omega
theorem call_maxI (hc : X.calm = true) : CallR X (.builtin "max") rMax2 := CallR.imp (call_max2 hc) fun xs H Q h => by
  obtain ⟨i, j, e, q⟩ := h
  exact ⟨i, j, e, by rw [max_if]; exact q⟩
theorem call_minI (hc : X.calm = true) : CallR X (.builtin "min") rMin2 := CallR.imp (call_min2 hc) fun xs H Q h => by
  obtain ⟨i, j, e, q⟩ := h
  exact ⟨i, j, e, by rw [min_if]; exact q⟩
def rIsN : R2 := fun x y H Q => y = V.non ∧ Q (.bl (decide (x = V.non))) H
def rIsNotN : R2 := fun x y H Q => y = V.non ∧ Q (.bl (!decide (x = V.non))) H
theorem op_isNone : OpR X (compareOp .Is) rIsN := op_isN
theorem op_notNone : OpR X (compareOp .IsNot) rIsNotN := op_notN
def rStrIn : R2 := fun x y H Q => ∃ i j, x = .str i ∧ y = .str j ∧ Q (.bl (!(Builtin.Str.occurrences j i 0 j.length 1).isEmpty)) H
theorem op_strIn : OpR X (compareOp .In) rStrIn := op_in_str
def rStrNotIn : R2 := fun x y H Q => ∃ i j, x = .str i ∧ y = .str j ∧ Q (.bl (!(!(Builtin.Str.occurrences j i 0 j.length 1).isEmpty))) H
theorem op_strNotIn : OpR X (compareOp .NotIn) rStrNotIn := op_notin_str
def tLstI (t : TA) : TE := fun σ H Q => t σ H fun xs H1 => ∃ ns, toInts xs = some ns ∧ ns.length ≤ sizeLine ∧ ∀ p, H1 p = none → Q (.ref p) (upd H1 p (IL ns))
theorem pe_lstI {es : List Expr} {t : TA} {pos : Pos} (h : PA X es t) : PE X (.List es pos) (tLstI t) := by
  refine ⟨fun pins s σ H Q I hq => ?_⟩
  refine wpAny_List_spliced (thn (h.run pos pins s σ H _ I hq) fun us s1 ⟨xs, H1, I1, r, ns, e, z, q⟩ => ?_)
  have e2 := toInts_eq e
  have z2 : xs.length ≤ sizeLine := by rw [e2, List.length_map]; exact z
  refine ⟨by rw [← r.length]; exact z2, ?_⟩
  have hf : H1 s1.heap.objs.size = none := I1.hok.fresh (Nat.le_refl _)
  have q' := q _ hf
  have e3 : IL ns = .lst xs := by unfold IL; rw [e2]
  rw [e3] at q'
  refine ⟨.ref s1.heap.objs.size, upd H1 s1.heap.objs.size (.lst xs), I1.laid (t' := s1.toks) (fun b u e => Heap.get?_push_of_some _ e) (Nat.le_refl _) ?_, rfl, q'⟩
  exact ⟨z2, us, 0, r, Heap.get?_push_size _ rfl⟩
/-- a method of a list that stands in a name: the slot i -/
def tBML (i : Nat) (r : V → List V → Hp → VK → Prop) (t : TA) : TE := fun σ H Q => ∃ p, σ[i]? = some (some (.ref p)) ∧ isL (H p) = true ∧ t σ H fun xs H2 => r (.ref p) xs H2 Q
theorem bml_imp {K : PySem.W.Frag} {i : Nat} {r : V → List V → Hp → VK → Prop} {t : TA} : ∀ σ H Q, tBML i r t σ H Q → tBM K "list" r (tVar i) t σ H Q := by
  intro σ H Q ⟨p, e, h, q⟩
  obtain ⟨xs, hx⟩ := isL_of h
  exact ⟨_, e, .inl ⟨rfl, _, .of hx⟩, q⟩
def tBML0 (i : Nat) (r : V → List V → Hp → VK → Prop) : TE := fun σ H Q => ∃ p, σ[i]? = some (some (.ref p)) ∧ isL (H p) = true ∧ r (.ref p) [] H Q
theorem bml0_imp {K : PySem.W.Frag} {i : Nat} {r : V → List V → Hp → VK → Prop} : ∀ σ H Q, tBML0 i r σ H Q → tBM0 K "list" r (tVar i) σ H Q := by
  intro σ H Q ⟨p, e, h, q⟩
  obtain ⟨xs, hx⟩ := isL_of h
  exact ⟨_, e, .inl ⟨rfl, _, .of hx⟩, q⟩
end
/-! ### written places and bounds -/
theorem atI_k {α : Type} (xs : List α) (k : Nat) : atI xs (k : Int) = xs[k]? := by
  unfold atI ixN
  rw [if_pos (Int.natCast_nonneg k)]
  by_cases h : k < xs.length
  · rw [if_pos (by omega), Int.toNat_natCast]; rfl
  · rw [if_neg (by omega), List.getElem?_eq_none (by omega)]; rfl
theorem atI_0 {α : Type} (xs : List α) : atI xs 0 = xs[0]? := atI_k xs 0
theorem atI_1 {α : Type} (xs : List α) : atI xs 1 = xs[1]? := atI_k xs 1
theorem atI_2 {α : Type} (xs : List α) : atI xs 2 = xs[2]? := atI_k xs 2
theorem atI_3 {α : Type} (xs : List α) : atI xs 3 = xs[3]? := atI_k xs 3
theorem atI_4 {α : Type} (xs : List α) : atI xs 4 = xs[4]? := atI_k xs 4
theorem cmul_r {i j : Int} (h1 : -18446744073709551616 < j) (h2 : j < 18446744073709551616) : CMul i j = True := eq_true (.inr ⟨h1, h2⟩)
theorem cmul_l {i j : Int} (h1 : -18446744073709551616 < i) (h2 : i < 18446744073709551616) : CMul i j = True := eq_true (.inl ⟨h1, h2⟩)
theorem cdiv_r {i j : Int} (h1 : 0 < j) (h2 : j < 1073741824) : CDiv i j = True := eq_true ⟨h1, h2⟩
theorem cast_lit (n : Nat) : ((no_index (OfNat.ofNat n) : Nat) : Int) = OfNat.ofNat n := rfl
/-! ### data that is tracked -/
mutual
inductive Dt (H : Hp) : V → PyData → Prop
  | non : Dt H .non .none
  | bl (b : Bool) : Dt H (.bl b) (.bool b)
  | int (i : Int) : Dt H (.int i) (.int i)
  | str (x : Str) : Dt H (.str x) (.str x)
  | lst {a : Addr} {xs : List V} {ds : List PyData} : H a = some (.lst xs) → DtAll H xs ds → Dt H (.ref a) (.list ds)
  | tup {a : Addr} {xs : List V} {ds : List PyData} : H a = some (.tup xs) → DtAll H xs ds → Dt H (.ref a) (.tuple ds)
inductive DtAll (H : Hp) : List V → List PyData → Prop
  | nil : DtAll H [] []
  | cons {v : V} {vs : List V} {d : PyData} {ds : List PyData} : Dt H v d → DtAll H vs ds → DtAll H (v :: vs) (d :: ds)
end
mutual
theorem Dt.same {H H' : Hp} (s : Same H H') : ∀ (d : PyData) (v : V), Dt H v d → Dt H' v d
  | .none, _, h => by cases h; exact .non
  | .bool b, _, h => by cases h; exact .bl b
  | .int i, _, h => by cases h; exact .int i
  | .str z, _, h => by cases h; exact .str z
  | .list ds, _, h => by cases h with | lst h1 h2 => exact .lst (s _ _ h1) (DtAll.same s ds _ h2)
  | .tuple ds, _, h => by cases h with | tup h1 h2 => exact .tup (s _ _ h1) (DtAll.same s ds _ h2)
  | .dict _, _, h => by cases h
theorem DtAll.same {H H' : Hp} (s : Same H H') : ∀ (ds : List PyData) (vs : List V), DtAll H vs ds → DtAll H' vs ds
  | [], _, h => by cases h; exact .nil
  | d :: ds, _, h => by cases h with | cons h1 h2 => exact .cons (Dt.same s d _ h1) (DtAll.same s ds _ h2)
end
mutual
theorem Dt.dp {K : PySem.W.Frag} {H : Hp} : ∀ (d : PyData) (v : V), Dt H v d → Dp K H v d
  | .none, _, h => by cases h; exact .non
  | .bool b, _, h => by cases h; exact .bl b
  | .int i, _, h => by cases h; exact .int i
  | .str z, _, h => by cases h; exact .str z
  | .list ds, _, h => by cases h with | lst h1 h2 => exact .lst (.of h1) (DtAll.dp ds _ h2)
  | .tuple ds, _, h => by cases h with | tup h1 h2 => exact .tup (.of h1) (DtAll.dp ds _ h2)
  | .dict _, _, h => by cases h
theorem DtAll.dp {K : PySem.W.Frag} {H : Hp} : ∀ (ds : List PyData) (vs : List V), DtAll H vs ds → DpAll K H vs ds
  | [], _, h => by cases h; exact .nil
  | d :: ds, _, h => by cases h with | cons h1 h2 => exact .cons (Dt.dp d _ h1) (DtAll.dp ds _ h2)
end
theorem dtAll_len {H : Hp} : ∀ {xs : List V} {ds : List PyData}, DtAll H xs ds → xs.length = ds.length
  | _, _, .nil => rfl
  | _, _, .cons _ t => by rw [List.length_cons, List.length_cons, dtAll_len t]
theorem dtAll_get {H : Hp} : ∀ {xs : List V} {ds : List PyData} {i : Nat}, DtAll H xs ds → i < ds.length → ∃ x d, xs[i]? = some x ∧ ds[i]? = some d ∧ Dt H x d
  | _, _, _, .nil, h => absurd h (Nat.not_lt_zero _)
  | _, _, 0, .cons a _, _ => ⟨_, _, rfl, rfl, a⟩
  | _, _, i + 1, .cons _ t, h => by
    obtain ⟨x, d, e1, e2, q⟩ := dtAll_get (i := i) t (Nat.lt_of_succ_lt_succ h)
    exact ⟨x, d, e1, e2, q⟩
theorem dt_ints {H : Hp} : ∀ ns : List Int, DtAll H (ns.map V.int) (ns.map PyData.int)
  | [] => .nil
  | n :: r => .cons (.int n) (dt_ints r)
theorem dt_IL {H : Hp} {p : Addr} {ns : List Int} (h : H p = some (IL ns)) : Dt H (.ref p) (.list (ns.map PyData.int)) := .lst h (dt_ints ns)
/-! ### isinstance of data -/
def tn : PyData → String
  | .none => "NoneType"
  | .bool _ => "bool"
  | .int _ => "int"
  | .str _ => "str"
  | .list _ => "list"
  | .tuple _ => "tuple"
  | .dict _ => "dict"
def tyO : Option HO → Option String
  | some (.lst _) => some "list"
  | some (.tup _) => some "tuple"
  | _ => none
def tyH (H : Hp) : V → Option String
  | .non => some "NoneType"
  | .bl _ => some "bool"
  | .int _ => some "int"
  | .str _ => some "str"
  | .ref a => tyO (H a)
  | _ => none
theorem tyH_non {H : Hp} : tyH H .non = some "NoneType" := rfl
theorem tyH_bl {H : Hp} {b : Bool} : tyH H (.bl b) = some "bool" := rfl
theorem tyH_int {H : Hp} {i : Int} : tyH H (.int i) = some "int" := rfl
theorem tyH_str {H : Hp} {x : Str} : tyH H (.str x) = some "str" := rfl
theorem tyH_ref {H : Hp} {a : Addr} : tyH H (.ref a) = tyO (H a) := rfl
theorem tyO_lst {xs : List V} : tyO (some (.lst xs)) = some "list" := rfl
theorem tyO_IL {xs : List Int} : tyO (some (IL xs)) = some "list" := rfl
theorem tyO_tup {xs : List V} : tyO (some (.tup xs)) = some "tuple" := rfl
theorem Dt.ty {H : Hp} {x : V} {d : PyData} (h : Dt H x d) : tyH H x = some (tn d) := by
  cases h with
  | non => rfl
  | bl b => rfl
  | int i => rfl
  | str z => rfl
  | lst h _ => rw [tyH_ref, h]; rfl
  | tup h _ => rw [tyH_ref, h]; rfl
theorem tyO_cases {o : Option HO} {t : String} (h : tyO o = some t) : (t = "list" ∧ ∃ xs, o = some (.lst xs)) ∨ (t = "tuple" ∧ ∃ xs, o = some (.tup xs)) := by
  cases o with
  | none => cases h
  | some u =>
    cases u with
    | lst xs => cases h; exact .inl ⟨rfl, xs, rfl⟩
    | tup xs => cases h; exact .inr ⟨rfl, xs, rfl⟩
    | _ => cases h
/-- isinstance(x, T), both built-in, by the name of x's type -/
def isB (a T : String) : Bool := a == T || (a == "bool" && T == "int")
def tyNames : List String := ["NoneType", "bool", "int", "str", "list", "tuple"]
def clNames : List String := ["bool", "int", "str", "list", "tuple"]
def isCl (T : String) : Bool := clNames.contains T
theorem isB_all : (tyNames.all fun a => clNames.all fun b => decide (kitB a b = some (isB a b))) = true := by decide +kernel
theorem isB_kit {a b : String} (h1 : a ∈ tyNames) (h2 : isCl b = true) : kitB a b = some (isB a b) := by
  have h := isB_all
  rw [List.all_eq_true] at h
  have h' := h a h1
  rw [List.all_eq_true] at h'
  exact of_decide_eq_true (h' b (List.contains_iff_mem.mp h2))
theorem tyH_x {K : PySem.W.Frag} {H : Hp} {x : V} {t : String} (h : tyH H x = some t) : TyX K H x (.type t) ∧ t ∈ tyNames := by
  cases x with
  | non => cases h; exact ⟨.base .non, by decide⟩
  | bl b => cases h; exact ⟨.base (.bl b), by decide⟩
  | int i => cases h; exact ⟨.base (.int i), by decide⟩
  | str z => cases h; exact ⟨.base (.str z), by decide⟩
  | ref a =>
    rcases tyO_cases h with ⟨rfl, xs, e⟩ | ⟨rfl, xs, e⟩
    · exact ⟨.base (.lst e), by decide⟩
    · exact ⟨.base (.tup e), by decide⟩
  | _ => cases h
def rIsiD : List V → Hp → VK → Prop := fun xs H Q => ∃ x T, xs = [x, .ty T] ∧ ∃ t, tyH H x = some t ∧ isCl T = true ∧ Q (.bl (isB t T)) H
theorem call_isiD {X : Cx} : CallR X (.builtin "isinstance") rIsiD := CallR.imp call_isi fun xs H Q h => by
  obtain ⟨x, T, rfl, t, ty, h2, q⟩ := h
  obtain ⟨h0, h1⟩ := tyH_x (K := X.K) ty
  exact ⟨x, .ty T, .type t, .type T, isB t T, rfl, .ty T, h0, kit_ty (isB_kit h1 h2), q⟩
theorem cl_bool : isCl "bool" = true := by decide
theorem cl_int : isCl "int" = true := by decide
theorem cl_str : isCl "str" = true := by decide
theorem cl_list : isCl "list" = true := by decide
theorem cl_tuple : isCl "tuple" = true := by decide
theorem isB_NoneType_bool : isB "NoneType" "bool" = false := by decide
theorem isB_NoneType_int : isB "NoneType" "int" = false := by decide
theorem isB_NoneType_str : isB "NoneType" "str" = false := by decide
theorem isB_NoneType_list : isB "NoneType" "list" = false := by decide
theorem isB_NoneType_tuple : isB "NoneType" "tuple" = false := by decide
theorem isB_bool_bool : isB "bool" "bool" = true := by decide
theorem isB_bool_int : isB "bool" "int" = true := by decide
theorem isB_bool_str : isB "bool" "str" = false := by decide
theorem isB_bool_list : isB "bool" "list" = false := by decide
theorem isB_bool_tuple : isB "bool" "tuple" = false := by decide
theorem isB_int_bool : isB "int" "bool" = false := by decide
theorem isB_int_int : isB "int" "int" = true := by decide
theorem isB_int_str : isB "int" "str" = false := by decide
theorem isB_int_list : isB "int" "list" = false := by decide
theorem isB_int_tuple : isB "int" "tuple" = false := by decide
theorem isB_str_bool : isB "str" "bool" = false := by decide
theorem isB_str_int : isB "str" "int" = false := by decide
theorem isB_str_str : isB "str" "str" = true := by decide
theorem isB_str_list : isB "str" "list" = false := by decide
theorem isB_str_tuple : isB "str" "tuple" = false := by decide
theorem isB_list_bool : isB "list" "bool" = false := by decide
theorem isB_list_int : isB "list" "int" = false := by decide
theorem isB_list_str : isB "list" "str" = false := by decide
theorem isB_list_list : isB "list" "list" = true := by decide
theorem isB_list_tuple : isB "list" "tuple" = false := by decide
theorem isB_tuple_bool : isB "tuple" "bool" = false := by decide
theorem isB_tuple_int : isB "tuple" "int" = false := by decide
theorem isB_tuple_str : isB "tuple" "str" = false := by decide
theorem isB_tuple_list : isB "tuple" "list" = false := by decide
theorem isB_tuple_tuple : isB "tuple" "tuple" = true := by decide
theorem scal_nn : scal .non .non = true := rfl
theorem scal_ii {a b : Int} : scal (.int a) (.int b) = true := rfl
theorem scal_bb {a b : Bool} : scal (.bl a) (.bl b) = true := rfl
theorem scal_ss {a b : Str} : scal (.str a) (.str b) = true := rfl
theorem scal_is {a : Int} {b : Str} : scal (.int a) (.str b) = true := rfl
theorem scal_si {a : Int} {b : Str} : scal (.str b) (.int a) = true := rfl
/-! ### lists and tuples that are tracked: their items -/
def itO : Option HO → Option (List V)
  | some (.lst xs) => some xs
  | some (.tup xs) => some xs
  | _ => none
theorem itO_lst {xs : List V} : itO (some (.lst xs)) = some xs := rfl
theorem itO_tup {xs : List V} : itO (some (.tup xs)) = some xs := rfl
theorem itO_IL {ns : List Int} : itO (some (IL ns)) = some (ns.map V.int) := rfl
theorem itO_cases {o : Option HO} {xs : List V} (h : itO o = some xs) : o = some (.lst xs) ∨ o = some (.tup xs) := by
  cases o with
  | none => cases h
  | some u =>
    cases u with
    | lst xs => cases h; exact .inl rfl
    | tup xs => cases h; exact .inr rfl
    | _ => cases h
def rLenQ : List V → Hp → VK → Prop := fun xs H Q => ∃ p ys, xs = [.ref p] ∧ itO (H p) = some ys ∧ Q (.int (ys.length : Int)) H
theorem call_lenQ {X : Cx} : CallR X (.builtin "len") rLenQ := CallR.imp call_len_seq fun xs H Q h => by
  obtain ⟨p, ys, e, h1, q⟩ := h
  rcases itO_cases h1 with h1 | h1
  · exact ⟨p, _, e, .inl (.of h1), q⟩
  · exact ⟨p, _, e, .inr (.of h1), q⟩
def rLenB : List V → Hp → VK → Prop := fun xs H Q => ∃ p ys, xs = [.ref p] ∧ itO (H p) = some ys ∧ (ys.length ≤ 16777216 → Q (.int (ys.length : Int)) H)
theorem call_lenB {X : Cx} : CallR X (.builtin "len") rLenB := fun pins s σ H xs us Q I r h => by
  obtain ⟨p, ys, e, h1, q⟩ := h
  refine call_lenQ pins s σ H xs us Q I r ⟨p, ys, e, h1, q ?_⟩
  rcases itO_cases h1 with h1 | h1
  · obtain ⟨_, _, _, z⟩ := I.list (.of h1)
    rw [sizeLine_eq] at z
    exact z
  · obtain ⟨_, _, _, z⟩ := I.tuple (.of h1)
    rw [sizeLine_eq] at z
    exact z
def rIxD : R2 := fun x y H Q => ∃ p xs i v, x = .ref p ∧ y = .int i ∧ itO (H p) = some xs ∧ atI xs i = some v ∧ Q v H
theorem ix_seqD {X : Cx} : IxR X rIxD := IxR.imp (ix_list.or ix_tup) fun x y H Q h => by
  obtain ⟨p, xs, i, v, e1, e2, h1, h2, q⟩ := h
  rcases itO_cases h1 with h1 | h1
  · exact .inl ⟨p, _, i, _, e1, e2, .of h1, h2, q⟩
  · exact .inr ⟨p, _, i, _, e1, e2, .of h1, h2, q⟩
/-- data that is told the same twice -/
def spSame (n : Nat) : Sp := fun vs H Q _ => ∃ (x y : V) (d : PyData), vs = [x, y] ∧ Dt H x d ∧ Dt H y d ∧ d.depth < n ∧ SeqAt.shaped d = true ∧ Q (.bl true) H
theorem depthAll_get : ∀ {ds : List PyData} {i : Nat} {d : PyData}, ds[i]? = some d → d.depth ≤ PyData.depthAll ds
  | [], _, _, h => by simp at h
  | a :: r, 0, d, h => by
    have e : a = d := Option.some.inj h
    subst e
    simp only [PyData.depthAll]
    omega
  | a :: r, i + 1, d, h => by
    have q := depthAll_get (ds := r) (i := i) (d := d) h
    simp only [PyData.depthAll]
    omega
theorem canLayAll_get : ∀ {ds : List PyData} {i : Nat} {d : PyData}, ds[i]? = some d → PyData.canLayAll0 ds = true → d.canLay0 = true
  | [], _, _, h, _ => by simp at h
  | a :: r, 0, d, h, c => by
    have e : a = d := Option.some.inj h
    subst e
    rw [PyData.canLayAll0, Bool.and_eq_true] at c
    exact c.1
  | a :: r, i + 1, d, h, c => by
    rw [PyData.canLayAll0, Bool.and_eq_true] at c
    exact canLayAll_get (ds := r) (i := i) (d := d) h c.2
theorem shaped_item {ds : List PyData} {i : Nat} {d : PyData} (h : ds[i]? = some d) (c : PyData.canLayAll0 ds = true) (k : PyData.depthAll ds + 1 ≤ 64) : SeqAt.shaped d = true := by
  unfold SeqAt.shaped
  rw [Bool.and_eq_true]
  refine ⟨canLayAll_get h c, decide_eq_true ?_⟩
  have := depthAll_get h
  omega
theorem none_fn {P : Program} {w : World} {K : PySem.W.Frag} {mg : Str → Option Value} {base : Heap} {CX : CXT} {f : Addr} {fd : FuncData} {ps : List Str} {sp : Sp} {k : Nat} (no : ∀ vs H Q E, ¬ sp vs H Q E) : FnOk P w K mg base CX k f fd ps sp :=
  ⟨fun vs H Q E h => absurd h (no vs H Q E), fun A outer s H args us vs Q E _ _ _ _ h => absurd h (no vs H Q E)⟩
end Dw

namespace Dw
open PySem PySem.Spec PyProof.Rows L2
/-! ### the CRC, on natural numbers -/
/-- one bit -/
def stepB (n b : Nat) : Nat := (2 * n % 65536) ^^^ (if n / 32768 % 2 = b then 0 else 4129)
/-- one byte, bit by bit from the highest on -/
def byteB (n v : Nat) : Nat := (List.range 8).foldl (fun m k => stepB m (v / 2 ^ (7 - k) % 2)) n
/-- one byte, at once -/
def byteP (n v : Nat) : Nat :=
  let t := (n / 256) ^^^ v
  let u := t ^^^ (t / 16)
  ((((n * 256) ^^^ (u * 4096)) ^^^ (u * 32)) ^^^ u) % 65536
def crcN (vs : List Nat) : Nat := vs.foldl byteP 65535
theorem xor_lt {a b k : Nat} (h1 : a < 2 ^ k) (h2 : b < 2 ^ k) : a ^^^ b < 2 ^ k := Nat.xor_lt_two_pow h1 h2
theorem stepB_lt (n b : Nat) : stepB n b < 65536 := by
  unfold stepB
  refine xor_lt (k := 16) ?_ ?_
  · exact Nat.mod_lt _ (by decide)
  · split <;> decide
theorem byteP_lt (n v : Nat) : byteP n v < 65536 := Nat.mod_lt _ (by decide)
theorem mul2 (a b : Nat) : 2 * (a ^^^ b) = (2 * a) ^^^ (2 * b) := by
  have h := @Nat.shiftLeft_xor_distrib 1 a b
  simp only [Nat.shiftLeft_eq, Nat.pow_one] at h
  rw [Nat.mul_comm 2, Nat.mul_comm 2, Nat.mul_comm 2]
  exact h
theorem mulp (k a b : Nat) : (a ^^^ b) * 2 ^ k = (a * 2 ^ k) ^^^ (b * 2 ^ k) := by
  have h := @Nat.shiftLeft_xor_distrib k a b
  simp only [Nat.shiftLeft_eq] at h
  exact h
theorem divp (k a b : Nat) : (a ^^^ b) / 2 ^ k = (a / 2 ^ k) ^^^ (b / 2 ^ k) := by
  have h := @Nat.shiftRight_xor_distrib k a b
  simp only [Nat.shiftRight_eq_div_pow] at h
  exact h
theorem modp (k a b : Nat) : (a ^^^ b) % 2 ^ k = (a % 2 ^ k) ^^^ (b % 2 ^ k) := Nat.xor_mod_two_pow
theorem xor4 (a b c d : Nat) : (a ^^^ b) ^^^ (c ^^^ d) = (a ^^^ c) ^^^ (b ^^^ d) := by
  rw [Nat.xor_assoc, ← Nat.xor_assoc b c d, Nat.xor_comm b c, Nat.xor_assoc c b d, ← Nat.xor_assoc]
theorem bit_cases (n : Nat) : n % 2 = 0 ∨ n % 2 = 1 := by omega
theorem stepB_xor (n m b c : Nat) (hb : b < 2) (hc : c < 2) : stepB (n ^^^ m) (b ^^^ c) = stepB n b ^^^ stepB m c := by
  unfold stepB
  have e1 : 2 * (n ^^^ m) % 65536 = (2 * n % 65536) ^^^ (2 * m % 65536) := by rw [mul2]; exact modp 16 _ _
  have e2 : (n ^^^ m) / 32768 % 2 = (n / 32768 % 2) ^^^ (m / 32768 % 2) := by
    have q := divp 15 n m
    have q2 := modp 1 (n / 32768) (m / 32768)
    simp only [Nat.pow_one] at q2
    have : (n ^^^ m) / 32768 = (n / 32768) ^^^ (m / 32768) := q
    rw [this, q2]
  rw [e1, e2, xor4]
  congr 1
  have k1 : b = 0 ∨ b = 1 := by omega
  have k2 : c = 0 ∨ c = 1 := by omega
  rcases bit_cases (n / 32768) with h1 | h1 <;> rcases bit_cases (m / 32768) with h2 | h2 <;> rcases k1 with rfl | rfl <;> rcases k2 with rfl | rfl <;> rw [h1, h2] <;> decide
theorem bit_xor (v u k : Nat) : (v ^^^ u) / 2 ^ k % 2 = (v / 2 ^ k % 2) ^^^ (u / 2 ^ k % 2) := by
  rw [divp]
  have q2 := modp 1 (v / 2 ^ k) (u / 2 ^ k)
  simp only [Nat.pow_one] at q2
  exact q2
theorem fold_xor (v u : Nat) : ∀ (l : List Nat) (n m : Nat), l.foldl (fun m k => stepB m ((v ^^^ u) / 2 ^ (7 - k) % 2)) (n ^^^ m) = l.foldl (fun m k => stepB m (v / 2 ^ (7 - k) % 2)) n ^^^ l.foldl (fun m k => stepB m (u / 2 ^ (7 - k) % 2)) m
  | [], _, _ => rfl
  | k :: r, n, m => by
    rw [List.foldl_cons, List.foldl_cons, List.foldl_cons, bit_xor, stepB_xor _ _ _ _ (Nat.mod_lt _ (by decide)) (Nat.mod_lt _ (by decide))]
    exact fold_xor v u r _ _
theorem byteB_xor (n m v u : Nat) : byteB (n ^^^ m) (v ^^^ u) = byteB n v ^^^ byteB m u := fold_xor v u _ n m
theorem byteP_xor (n m v u : Nat) : byteP (n ^^^ m) (v ^^^ u) = byteP n v ^^^ byteP m u := by
  have d8 := divp 8 n m
  have e0 : (n ^^^ m) / 256 ^^^ (v ^^^ u) = (n / 256 ^^^ v) ^^^ (m / 256 ^^^ u) := by
    have : (n ^^^ m) / 256 = (n / 256) ^^^ (m / 256) := d8
    rw [this, xor4]
  unfold byteP
  simp only
  rw [e0]
  generalize n / 256 ^^^ v = t
  generalize m / 256 ^^^ u = s
  have d4 : (t ^^^ s) / 16 = (t / 16) ^^^ (s / 16) := divp 4 t s
  rw [d4, xor4 t s]
  generalize t ^^^ t / 16 = a
  generalize s ^^^ s / 16 = b
  have m8 : (n ^^^ m) * 256 = (n * 256) ^^^ (m * 256) := mulp 8 n m
  have m12 : (a ^^^ b) * 4096 = (a * 4096) ^^^ (b * 4096) := mulp 12 a b
  have m5 : (a ^^^ b) * 32 = (a * 32) ^^^ (b * 32) := mulp 5 a b
  have md : ∀ x y : Nat, (x ^^^ y) % 65536 = (x % 65536) ^^^ (y % 65536) := modp 16
  rw [m8, m12, m5, ← md, xor4 (n * 256), xor4 (n * 256 ^^^ a * 4096), xor4 ((n * 256 ^^^ a * 4096) ^^^ a * 32)]
theorem tab_hi : ((List.range 256).all fun h => byteB (h * 256) 0 == byteP (h * 256) 0) = true := by decide +kernel
theorem tab_lo : ((List.range 256).all fun h => byteB h 0 == byteP h 0) = true := by decide +kernel
theorem tab_v : ((List.range 256).all fun h => byteB 0 h == byteP 0 h) = true := by decide +kernel
theorem of_tab {f g : Nat → Nat} {n k : Nat} (h : ((List.range n).all fun h => f h == g h) = true) (hk : k < n) : f k = g k := by
  rw [List.all_eq_true] at h
  have := h k (List.mem_range.mpr hk)
  exact eq_of_beq this
theorem hi_lo {n : Nat} : n = (n / 256 * 256) ^^^ (n % 256) := by
  apply Nat.eq_of_testBit_eq
  intro i
  have e1 : n / 256 * 256 = (n >>> 8) <<< 8 := by rw [Nat.shiftLeft_eq, Nat.shiftRight_eq_div_pow]
  have e2 : n % 256 = n % 2 ^ 8 := rfl
  rw [Nat.testBit_xor, e1, e2, Nat.testBit_mod_two_pow, Nat.testBit_shiftLeft, Nat.testBit_shiftRight]
  by_cases h : i < 8
  · have : ¬ i ≥ 8 := by omega
    simp [h, this]
  · have : i ≥ 8 := by omega
    have e : 8 + (i - 8) = i := by omega
    simp [h, this, e]
theorem byte_eq {n v : Nat} (hn : n < 65536) (hv : v < 256) : byteB n v = byteP n v := by
  have e := @hi_lo n
  have z : v = 0 ^^^ v := by rw [Nat.zero_xor]
  have z0 : n = n ^^^ 0 := by rw [Nat.xor_zero]
  have a1 : byteB n v = byteB n 0 ^^^ byteB 0 v := by
    have := byteB_xor n 0 0 v
    rw [Nat.xor_zero, Nat.zero_xor] at this
    exact this
  have a2 : byteP n v = byteP n 0 ^^^ byteP 0 v := by
    have := byteP_xor n 0 0 v
    rw [Nat.xor_zero, Nat.zero_xor] at this
    exact this
  have b1 : byteB n 0 = byteB (n / 256 * 256) 0 ^^^ byteB (n % 256) 0 := by
    have := byteB_xor (n / 256 * 256) (n % 256) 0 0
    rw [← e] at this
    exact this
  have b2 : byteP n 0 = byteP (n / 256 * 256) 0 ^^^ byteP (n % 256) 0 := by
    have := byteP_xor (n / 256 * 256) (n % 256) 0 0
    rw [← e] at this
    exact this
  rw [a1, a2, b1, b2, of_tab (f := fun h => byteB (h * 256) 0) (g := fun h => byteP (h * 256) 0) tab_hi (show n / 256 < 256 by omega), of_tab (f := fun h => byteB h 0) (g := fun h => byteP h 0) tab_lo (show n % 256 < 256 by omega), of_tab (f := fun h => byteB 0 h) (g := fun h => byteP 0 h) tab_v hv]
/-! ### whole numbers as natural ones -/
theorem xorN (a b : Nat) : Builtin.bitXor (a : Int) (b : Int) = ((a ^^^ b : Nat) : Int) := by
  rw [Bits.bitXor_pp (Int.natCast_nonneg a) (Int.natCast_nonneg b), Int.toNat_natCast, Int.toNat_natCast]
theorem orN (a b : Nat) : Builtin.bitOr (a : Int) (b : Int) = ((a ||| b : Nat) : Int) := by
  rw [Bits.bitOr_pp (Int.natCast_nonneg a) (Int.natCast_nonneg b), Int.toNat_natCast, Int.toNat_natCast]
theorem andN (a b : Nat) : Builtin.bitAnd (a : Int) (b : Int) = ((a &&& b : Nat) : Int) := by
  rw [bitAnd_pp (Int.natCast_nonneg a) (Int.natCast_nonneg b), Int.toNat_natCast, Int.toNat_natCast]
theorem and65535 (a : Nat) : Builtin.bitAnd (a : Int) 65535 = ((a % 65536 : Nat) : Int) := by
  have h := Bits.bitAnd_mask 16 (Int.natCast_nonneg a)
  have e : (2 : Int) ^ 16 - 1 = 65535 := by decide
  rw [e] at h
  rw [h]
  have e2 : (2 : Int) ^ 16 = 65536 := by decide
  rw [e2]
  omega
theorem and1 (a : Nat) : Builtin.bitAnd (a : Int) 1 = ((a % 2 : Nat) : Int) := by
  have h := Bits.bitAnd_mask 1 (Int.natCast_nonneg a)
  have e : (2 : Int) ^ 1 - 1 = 1 := by decide
  rw [e] at h
  rw [h]
  have e2 : (2 : Int) ^ 1 = 2 := by decide
  rw [e2]
  omega
theorem and255 (a : Nat) : Builtin.bitAnd (a : Int) 255 = ((a % 256 : Nat) : Int) := by
  have h := Bits.bitAnd_mask 8 (Int.natCast_nonneg a)
  have e : (2 : Int) ^ 8 - 1 = 255 := by decide
  rw [e] at h
  rw [h]
  have e2 : (2 : Int) ^ 8 = 256 := by decide
  rw [e2]
  omega
/-- (a | b) - (a & b) -/
theorem or_sub_and (a b : Nat) : Builtin.bitOr (a : Int) (b : Int) - Builtin.bitAnd (a : Int) (b : Int) = ((a ^^^ b : Nat) : Int) := by
  rw [orN, andN]
  have h1 := Bits.nat_xor_add_and a b
  have h2 := nat_or_add_and a b
  omega
/-- a list of bytes -/
def Bytes (ns : List Int) : Prop := ∀ n ∈ ns, 0 ≤ n ∧ n < 256
def crcZ (ns : List Int) : Int := (crcN (ns.map Int.toNat) : Nat)
theorem crcN_lt : ∀ vs : List Nat, crcN vs < 65536 := by
  intro vs
  unfold crcN
  have : ∀ (l : List Nat) (n : Nat), n < 65536 → l.foldl byteP n < 65536 := by
    intro l
    induction l with
    | nil => intro n h; exact h
    | cons a r ih => intro n _; exact ih _ (byteP_lt _ _)
  exact this vs 65535 (by decide)
theorem crcZ_nn (ns : List Int) : 0 ≤ crcZ ns ∧ crcZ ns < 65536 := by
  have := crcN_lt (ns.map Int.toNat)
  unfold crcZ
  omega
theorem take_more {α : Type} : ∀ {l : List α} {i : Nat} {x : α}, l[i]? = some x → l.take (i + 1) = l.take i ++ [x]
  | [], i, x, h => by simp at h
  | a :: l, 0, x, h => by
    have e : a = x := Option.some.inj h
    subst e
    rfl
  | a :: l, i + 1, x, h => by
    have ih := take_more (l := l) (i := i) (x := x) h
    show a :: l.take (i + 1) = a :: l.take i ++ [x]
    rw [ih]
    rfl
theorem crcN_more {ns : List Int} {i : Nat} {v : Nat} (h : ns[i]? = some (v : Int)) : crcN ((ns.take (i + 1)).map Int.toNat) = byteP (crcN ((ns.take i).map Int.toNat)) v := by
  unfold crcN
  rw [take_more h, List.map_append, List.foldl_append]
  simp
theorem ints_at {ns : List Int} {i : Nat} {v : V} (h : (ns.map V.int)[i]? = some v) : ∃ z : Int, v = V.int z ∧ ns[i]? = some z := by
  rw [List.getElem?_map] at h
  cases e : ns[i]? with
  | none => rw [e] at h; cases h
  | some z => rw [e] at h; exact ⟨z, (Option.some.inj h).symm, rfl⟩
theorem bytes_at {ns : List Int} {i : Nat} {z : Int} (hb : Bytes ns) (h : ns[i]? = some z) : ∃ v : Nat, z = (v : Int) ∧ v < 256 := by
  have := hb z (List.mem_of_getElem? h)
  exact ⟨z.toNat, by omega, by omega⟩
def spCrc : Sp := fun vs H Q _ => ∃ (a : Addr) (ns : List Int), vs = [.ref a] ∧ H a = some (IL ns) ∧ Bytes ns ∧ Q (.int (crcZ ns)) H
end Dw
namespace Dw
open PySem PySem.Spec PyProof.Rows L2
theorem zdiv (a k : Nat) : (a : Int) / 2 ^ k = ((a / 2 ^ k : Nat) : Int) := by
  rw [two_pow_cast]
  exact (Int.natCast_ediv _ _).symm
theorem zmul (a k : Nat) : (a : Int) * 2 ^ k = ((a * 2 ^ k : Nat) : Int) := by
  rw [two_pow_cast]
  exact (Int.natCast_mul _ _).symm
def takenN (n v : Nat) : Nat := ((n / 256) ^^^ v) ^^^ (((n / 256) ^^^ v) / 16)
theorem takenZ (n v : Nat) : Builtin.bitXor (Builtin.bitXor ((n : Int) / 256) (v : Int)) (Builtin.bitXor ((n : Int) / 256) (v : Int) / 16) = ((takenN n v : Nat) : Int) := by
  have e1 : (n : Int) / 256 = ((n / 256 : Nat) : Int) := zdiv n 8
  rw [e1, xorN]
  have e2 : ((n / 256 ^^^ v : Nat) : Int) / 16 = (((n / 256 ^^^ v) / 16 : Nat) : Int) := zdiv _ 4
  rw [e2, xorN]
  rfl
theorem takenN_lt {n v : Nat} (hn : n < 65536) (hv : v < 256) : takenN n v < 256 := by
  unfold takenN
  have h1 : n / 256 ^^^ v < 2 ^ 8 := xor_lt (by omega) hv
  exact xor_lt (k := 8) h1 (by omega)
/-- the program's step on whole numbers -/
theorem stepZ (n v : Nat) : Builtin.bitAnd (Builtin.bitXor (Builtin.bitXor (Builtin.bitXor ((n : Int) * 256) ((takenN n v : Int) * 4096)) ((takenN n v : Int) * 32)) (takenN n v : Int)) 65535 = ((byteP n v : Nat) : Int) := by
  have e1 : (n : Int) * 256 = ((n * 256 : Nat) : Int) := zmul n 8
  have e2 : (takenN n v : Int) * 4096 = ((takenN n v * 4096 : Nat) : Int) := zmul _ 12
  have e3 : (takenN n v : Int) * 32 = ((takenN n v * 32 : Nat) : Int) := zmul _ 5
  rw [e1, e2, e3, xorN, xorN, xorN, and65535]
  rfl
end Dw
namespace Dw
open PySem PySem.Spec PyProof.Rows L2
theorem SameB.none {p q r : Addr} {H H' : Hp} (s : SameB p H H') (hP : Pool H' p q) (h : H' r = none) : H r = none := by
  cases e : H r with
  | none => rfl
  | some o =>
    by_cases q : r = p
    · subst q
      obtain ⟨u, hu⟩ := hP.there
      rw [hu] at h; cases h
    · rw [s r o q e] at h; cases h
theorem Pool.upd {H : Hp} {p q r : Addr} {o : HO} (h : Pool H p q) (n : H r = none) : Pool (upd H r o) p q := h.same (same_new n o)
theorem Pool.ups {H : Hp} {p q r : Addr} {o : HO} (h : Pool H p q) (n : p ≠ r) (n2 : q ≠ r) : Pool (L2.upd H r o) p q := by
  obtain ⟨ns, a, b, c, d, h1, h2, h3⟩ := h
  exact ⟨ns, a, b, c, d, by rw [upd_ne n]; exact h1, by rw [upd_ne n2]; exact h2, h3⟩
/-- [e for k in range(..)] of numbers that are drawn -/
theorem lc_pool {p q : Addr} {R : Int → Prop} {lo : Int} {n j : Nat} {te : TE} {vs : List Nat} {σ : L2.St} {H1 : Hp} {D : Addr} {Qd : Hp → Prop} (hn : n ≤ 16777215) (hP : Pool H1 p q) (hD : H1 D = none) (hw : ∀ v, wipe ((wipe σ vs).set j v) vs = wipe σ vs)
    (hte : ∀ i H3 (Q' : VK), i < n → Pool H3 p q → SameB p H1 H3 → (∀ v H4, R v → Pool H4 p q → SameB p H3 H4 → Q' (.int v) H4) → te ((wipe σ vs).set j (some (.int (lo + (i : Nat))))) H3 Q')
    (hd : ∀ ns H', ns.length = n → (∀ v ∈ ns, R v) → Pool H' p q → SameB p H1 H' → H' D = some (IL ns) → Qd H') :
    ∃ W : Nat → Nat → Hp → Prop, (∃ m, W 0 m (L2.upd H1 D (.lst []))) ∧ ∀ i m H, W i m H →
      ((Itr lo n).stop i H ∧ Qd H) ∨ ((Itr lo n).go i H ∧ ∃ Nx : Hp → Prop, (∀ H', Nx H' → ∃ m', m' < m ∧ W (i + 1) m' H') ∧ ∀ x H', (Itr lo n).yld i H x H' → gName j x (wipe σ vs) H' fun σ2 H2 => wipe σ2 vs = wipe σ vs ∧ tYes σ2 H2 fun b H3 =>
        if b = true then te σ2 H3 fun y H4 => ∃ acc, H4 D = some (.lst acc) ∧ acc.length < sizeLine ∧ Nx (L2.upd H4 D (.lst (acc ++ [y]))) else Nx H3) := by
  have hDp : p ≠ D := hP.ne hD
  have hDq : q ≠ D := hP.ne2 hD
  refine lc_range (lo := lo) (n := n) (fun i H' => Pool H' p q ∧ SameB p H1 H' ∧ ∃ ns : List Int, H' D = some (IL ns) ∧ ns.length = i ∧ ∀ v ∈ ns, R v) ⟨hP.upd hD, Same.b (same_new hD _), [], upd_same, rfl, fun v h => by cases h⟩ ?_ ?_
  · intro i H hi h
    obtain ⟨h1, h2, ns, h3, h4, h5⟩ := h
    refine ⟨hw _, ?_⟩
    simp only [tYes, if_true]
    refine hte i H _ hi h1 h2 fun v H4 hR hP4 hs => ?_
    have e : H4 D = some (IL ns) := hs D _ hDp.symm h3
    have ez : ns.map V.int ++ [V.int v] = (ns ++ [v]).map V.int := by rw [List.map_append]; rfl
    refine ⟨ns.map V.int, e, by rw [List.length_map, h4]; exact line_lt (by omega), hP4.ups hDp hDq, ?_, ns ++ [v], ?_, by rw [List.length_append, h4]; rfl, ?_⟩
    · intro b o nb hb
      rw [upd_ne (ne_of_none hb hD)]
      exact hs b o nb (h2 b o nb hb)
    · rw [upd_same, ez]
      rfl
    · intro x hx
      rcases List.mem_append.mp hx with hx | hx
      · exact h5 x hx
      · rw [List.mem_singleton.mp hx]; exact hR
  · intro H h
    obtain ⟨h1, h2, ns, h3, h4, h5⟩ := h
    exact hd ns H h4 h5 h1 h2 h3
/-- drawn bytes: a new list -/
def spSomeBytes : Sp := fun vs H Q _ => ∃ (p q : Addr) (m : Int), vs = [.ref p, .int m] ∧ Pool H p q ∧ 0 ≤ m ∧ m < 100000 ∧ ∀ r ns H', Pool H' p q → SameB p H H' → H r = none → H' r = some (IL ns) → Bytes ns → (ns.length : Int) ≤ m → Q (.ref r) H'
def spOr : Sp := fun vs H Q _ => ∃ a b : Nat, vs = [.int a, .int b] ∧ Q (.int ((a ^^^ b : Nat) : Int)) H
end Dw
namespace Dw
open PySem PySem.Spec PyProof.Rows L2
/-- the first k bits of a byte -/
def byteK (n v k : Nat) : Nat := (List.range k).foldl (fun m k => stepB m (v / 2 ^ (7 - k) % 2)) n
theorem byteK_succ (n v k : Nat) : byteK n v (k + 1) = stepB (byteK n v k) (v / 2 ^ (7 - k) % 2) := by
  unfold byteK
  rw [List.range_succ, List.foldl_append]
  rfl
theorem byteK_lt {n v : Nat} (hn : n < 65536) : ∀ k, byteK n v k < 65536
  | 0 => hn
  | k + 1 => by rw [byteK_succ]; exact stepB_lt _ _
theorem stepB_ne {n b : Nat} (h : n / 32768 % 2 ≠ b) : (2 * n % 65536) ^^^ 4129 = stepB n b := by
  unfold stepB
  rw [if_neg h]
theorem stepB_eq {n b : Nat} (h : n / 32768 % 2 = b) : 2 * n % 65536 = stepB n b := by
  unfold stepB
  rw [if_pos h, Nat.xor_zero]
end Dw
namespace Dw
open PySem PySem.Spec PyProof.Rows L2
theorem dep_int (i : Int) : (PyData.int i).depth < 8 := by simp only [PyData.depth]; decide
theorem sh_int (i : Int) : SeqAt.shaped (PyData.int i) = true := by
  unfold SeqAt.shaped
  simp only [PyData.depth, PyData.canLay0]
  rfl
theorem same_int {i : Int} {H : Hp} {Q : VK} {E : XK} (q : Q (.bl true) H) : spSame 8 [.int i, .int i] H Q E := ⟨_, _, .int i, rfl, .int i, .int i, dep_int i, sh_int i, q⟩
theorem dep_ints (ns : List Int) : (PyData.list (ns.map PyData.int)).depth < 8 := by
  have := depthAll_ints ns
  simp only [PyData.depth]
  omega
theorem same_IL {ns : List Int} {r u : Addr} {H : Hp} {Q : VK} {E : XK} (h1 : H r = some (IL ns)) (h2 : H u = some (IL ns)) (q : Q (.bl true) H) : spSame 8 [.ref r, .ref u] H Q E :=
  ⟨_, _, _, rfl, dt_IL h1, dt_IL h2, dep_ints ns, shaped_ints ns, q⟩
end Dw
namespace Dw
open PySem PySem.Spec PyProof.Rows L2
/-! ### bits -/
/-- the eight bits of a byte, the highest first -/
def bits8 (v : Nat) : List Int := [((v / 128 % 2 : Nat) : Int), ((v / 64 % 2 : Nat) : Int), ((v / 32 % 2 : Nat) : Int), ((v / 16 % 2 : Nat) : Int), ((v / 8 % 2 : Nat) : Int), ((v / 4 % 2 : Nat) : Int), ((v / 2 % 2 : Nat) : Int), ((v % 2 : Nat) : Int)]
def spByteBits : Sp := fun vs H Q _ => ∃ v : Nat, vs = [.int (v : Int)] ∧ v < 256 ∧ ∀ r H', Same H H' → H r = none → H' r = some (IL (bits8 v)) → Q (.ref r) H'
end Dw


namespace Dw
open PySem PySem.Spec PyProof.Rows L2
theorem Same.seqT {K : PySem.W.Frag} {H H' : Hp} {a : Addr} {xs : List V} (e : Same H H') (h : SqT K H a xs) : SqT K H' a xs := by
  rcases h with (h | ⟨o, h⟩) | h
  · exact .inl (.inl (e _ _ h))
  · exact .inl (.inr ⟨o, e _ _ h⟩)
  · exact .inr h
/-! ### comprehensions whose items are ints that hang on the place alone (with a test: F) -/
theorem lc_rangeI {lo : Int} {n : Nat} {f : Nat → Int} {j : Nat} {te : TE} {vs : List Nat} {σ : L2.St} {H1 : Hp} {D : Addr} {Qd : Hp → Prop} (hn : n ≤ 16777215) (hD : H1 D = none) (hw : ∀ v, wipe ((wipe σ vs).set j v) vs = wipe σ vs)
    (hte : ∀ i H3 (Q' : VK), i < n → Same H1 H3 → (∀ H4, Same H3 H4 → Q' (.int (f i)) H4) → te ((wipe σ vs).set j (some (.int (lo + (i : Nat))))) H3 Q')
    (hd : ∀ H', Same H1 H' → H' D = some (IL ((List.range n).map f)) → Qd H') :
    ∃ W : Nat → Nat → Hp → Prop, (∃ m, W 0 m (L2.upd H1 D (.lst []))) ∧ ∀ i m H, W i m H →
      ((Itr lo n).stop i H ∧ Qd H) ∨ ((Itr lo n).go i H ∧ ∃ Nx : Hp → Prop, (∀ H', Nx H' → ∃ m', m' < m ∧ W (i + 1) m' H') ∧ ∀ x H', (Itr lo n).yld i H x H' → gName j x (wipe σ vs) H' fun σ2 H2 => wipe σ2 vs = wipe σ vs ∧ tYes σ2 H2 fun b H3 =>
        if b = true then te σ2 H3 fun y H4 => ∃ acc, H4 D = some (.lst acc) ∧ acc.length < sizeLine ∧ Nx (L2.upd H4 D (.lst (acc ++ [y]))) else Nx H3) := by
  refine lc_range (lo := lo) (n := n) (fun i H' => Same H1 H' ∧ H' D = some (IL ((List.range i).map f))) ⟨same_new hD _, upd_same⟩ ?_ ?_
  · intro i H hi h
    obtain ⟨h1, h2⟩ := h
    refine ⟨hw _, ?_⟩
    simp only [tYes, if_true]
    refine hte i H _ hi h1 fun H4 hs => ?_
    have hlt : i < n := hi
    have e : H4 D = some (IL ((List.range i).map f)) := hs D _ h2
    have ez : ((List.range i).map f).map V.int ++ [V.int (f i)] = ((List.range (i + 1)).map f).map V.int := by rw [List.range_succ, List.map_append, List.map_append]; rfl
    refine ⟨_, e, by rw [List.length_map, List.length_map, List.length_range]; exact line_lt (by omega), fun b o hb => ?_, ?_⟩
    · rw [upd_ne (ne_of_none hb hD)]
      exact hs _ _ (h1 b o hb)
    · rw [upd_same, ez]
      rfl
  · intro H h
    exact hd H h.1 h.2
theorem lc_rangeF {lo : Int} {n : Nat} {f : Nat → Int} {kp : Nat → Bool} {tt : TT} {j : Nat} {te : TE} {vs : List Nat} {σ : L2.St} {H1 : Hp} {D : Addr} {Qd : Hp → Prop} (hn : n ≤ 16777215) (hD : H1 D = none) (hw : ∀ v, wipe ((wipe σ vs).set j v) vs = wipe σ vs)
    (htt : ∀ i H3 (Q' : Bool → Hp → Prop), i < n → Same H1 H3 → (∀ H4, Same H3 H4 → Q' (kp i) H4) → tt ((wipe σ vs).set j (some (.int (lo + (i : Nat))))) H3 Q')
    (hte : ∀ i H3 (Q' : VK), i < n → kp i = true → Same H1 H3 → (∀ H4, Same H3 H4 → Q' (.int (f i)) H4) → te ((wipe σ vs).set j (some (.int (lo + (i : Nat))))) H3 Q')
    (hd : ∀ H', Same H1 H' → H' D = some (IL (((List.range n).filter kp).map f)) → Qd H') :
    ∃ W : Nat → Nat → Hp → Prop, (∃ m, W 0 m (L2.upd H1 D (.lst []))) ∧ ∀ i m H, W i m H →
      ((Itr lo n).stop i H ∧ Qd H) ∨ ((Itr lo n).go i H ∧ ∃ Nx : Hp → Prop, (∀ H', Nx H' → ∃ m', m' < m ∧ W (i + 1) m' H') ∧ ∀ x H', (Itr lo n).yld i H x H' → gName j x (wipe σ vs) H' fun σ2 H2 => wipe σ2 vs = wipe σ vs ∧ tt σ2 H2 fun b H3 =>
        if b = true then te σ2 H3 fun y H4 => ∃ acc, H4 D = some (.lst acc) ∧ acc.length < sizeLine ∧ Nx (L2.upd H4 D (.lst (acc ++ [y]))) else Nx H3) := by
  refine lc_range (lo := lo) (n := n) (fun i H' => Same H1 H' ∧ H' D = some (IL (((List.range i).filter kp).map f))) ⟨same_new hD _, upd_same⟩ ?_ ?_
  · intro i H hi h
    obtain ⟨h1, h2⟩ := h
    refine ⟨hw _, ?_⟩
    refine htt i H _ hi h1 fun H4 hs => ?_
    have hlt : i < n := hi
    by_cases c : kp i = true
    · rw [if_pos c]
      refine hte i H4 _ hi c (h1.trans hs) fun H5 hs5 => ?_
      have e : H5 D = some (IL (((List.range i).filter kp).map f)) := hs5 D _ (hs D _ h2)
      have ez : (((List.range i).filter kp).map f).map V.int ++ [V.int (f i)] = (((List.range (i + 1)).filter kp).map f).map V.int := by
        rw [List.range_succ, List.filter_append, List.map_append, List.map_append]
        simp [c]
      refine ⟨_, e, ?_, fun b o hb => ?_, ?_⟩
      · rw [List.length_map, List.length_map]
        have := List.length_filter_le kp (List.range i)
        rw [List.length_range] at this
        exact line_lt (by omega)
      · rw [upd_ne (ne_of_none hb hD)]
        exact hs5 _ _ (hs _ _ (h1 b o hb))
      · rw [upd_same, ez]
        rfl
    · rw [if_neg c]
      refine ⟨h1.trans hs, ?_⟩
      rw [hs D _ h2, List.range_succ, List.filter_append]
      simp [c]
  · intro H h
    exact hd H h.1 h.2
theorem lc_listI {K : PySem.W.Frag} {a : Addr} {xs : List V} {f : Nat → Int} {j : Nat} {te : TE} {vs : List Nat} {σ : L2.St} {H1 : Hp} {D : Addr} {Qd : Hp → Prop} (hn : xs.length ≤ 16777215) (hS : SqL K H1 a xs) (hD : H1 D = none) (hw : ∀ v, wipe ((wipe σ vs).set j v) vs = wipe σ vs)
    (hte : ∀ i x H3 (Q' : VK), xs[i]? = some x → Same H1 H3 → (∀ H4, Same H3 H4 → Q' (.int (f i)) H4) → te ((wipe σ vs).set j (some (x))) H3 Q')
    (hd : ∀ H', Same H1 H' → H' D = some (IL ((List.range xs.length).map f)) → Qd H') :
    ∃ W : Nat → Nat → Hp → Prop, (∃ m, W 0 m (L2.upd H1 D (.lst []))) ∧ ∀ i m H, W i m H →
      ((Itl K a).stop i H ∧ Qd H) ∨ ((Itl K a).go i H ∧ ∃ Nx : Hp → Prop, (∀ H', Nx H' → ∃ m', m' < m ∧ W (i + 1) m' H') ∧ ∀ x H', (Itl K a).yld i H x H' → gName j x (wipe σ vs) H' fun σ2 H2 => wipe σ2 vs = wipe σ vs ∧ tYes σ2 H2 fun b H3 =>
        if b = true then te σ2 H3 fun y H4 => ∃ acc, H4 D = some (.lst acc) ∧ acc.length < sizeLine ∧ Nx (L2.upd H4 D (.lst (acc ++ [y]))) else Nx H3) := by
  refine lc_list (K := K) (a := a) (xs := xs) (fun i H' => Same H1 H' ∧ H' D = some (IL ((List.range i).map f))) ⟨same_new hD _, upd_same⟩ (fun i H' _ h => ?_) ?_ ?_
  · exact Same.seq h.1 hS
  · intro i x H hi h
    obtain ⟨h1, h2⟩ := h
    refine ⟨hw _, ?_⟩
    simp only [tYes, if_true]
    refine hte i _ H _ hi h1 fun H4 hs => ?_
    have hlt : i < xs.length := (List.getElem?_eq_some_iff.mp hi).1
    have e : H4 D = some (IL ((List.range i).map f)) := hs D _ h2
    have ez : ((List.range i).map f).map V.int ++ [V.int (f i)] = ((List.range (i + 1)).map f).map V.int := by rw [List.range_succ, List.map_append, List.map_append]; rfl
    refine ⟨_, e, by rw [List.length_map, List.length_map, List.length_range]; exact line_lt (by omega), fun b o hb => ?_, ?_⟩
    · rw [upd_ne (ne_of_none hb hD)]
      exact hs _ _ (h1 b o hb)
    · rw [upd_same, ez]
      rfl
  · intro H h
    exact hd H h.1 h.2
theorem lc_listF {K : PySem.W.Frag} {a : Addr} {xs : List V} {f : Nat → Int} {kp : Nat → Bool} {tt : TT} {j : Nat} {te : TE} {vs : List Nat} {σ : L2.St} {H1 : Hp} {D : Addr} {Qd : Hp → Prop} (hn : xs.length ≤ 16777215) (hS : SqL K H1 a xs) (hD : H1 D = none) (hw : ∀ v, wipe ((wipe σ vs).set j v) vs = wipe σ vs)
    (htt : ∀ i x H3 (Q' : Bool → Hp → Prop), xs[i]? = some x → Same H1 H3 → (∀ H4, Same H3 H4 → Q' (kp i) H4) → tt ((wipe σ vs).set j (some (x))) H3 Q')
    (hte : ∀ i x H3 (Q' : VK), xs[i]? = some x → kp i = true → Same H1 H3 → (∀ H4, Same H3 H4 → Q' (.int (f i)) H4) → te ((wipe σ vs).set j (some (x))) H3 Q')
    (hd : ∀ H', Same H1 H' → H' D = some (IL (((List.range xs.length).filter kp).map f)) → Qd H') :
    ∃ W : Nat → Nat → Hp → Prop, (∃ m, W 0 m (L2.upd H1 D (.lst []))) ∧ ∀ i m H, W i m H →
      ((Itl K a).stop i H ∧ Qd H) ∨ ((Itl K a).go i H ∧ ∃ Nx : Hp → Prop, (∀ H', Nx H' → ∃ m', m' < m ∧ W (i + 1) m' H') ∧ ∀ x H', (Itl K a).yld i H x H' → gName j x (wipe σ vs) H' fun σ2 H2 => wipe σ2 vs = wipe σ vs ∧ tt σ2 H2 fun b H3 =>
        if b = true then te σ2 H3 fun y H4 => ∃ acc, H4 D = some (.lst acc) ∧ acc.length < sizeLine ∧ Nx (L2.upd H4 D (.lst (acc ++ [y]))) else Nx H3) := by
  refine lc_list (K := K) (a := a) (xs := xs) (fun i H' => Same H1 H' ∧ H' D = some (IL (((List.range i).filter kp).map f))) ⟨same_new hD _, upd_same⟩ (fun i H' _ h => ?_) ?_ ?_
  · exact Same.seq h.1 hS
  · intro i x H hi h
    obtain ⟨h1, h2⟩ := h
    refine ⟨hw _, ?_⟩
    refine htt i _ H _ hi h1 fun H4 hs => ?_
    have hlt : i < xs.length := (List.getElem?_eq_some_iff.mp hi).1
    by_cases c : kp i = true
    · rw [if_pos c]
      refine hte i _ H4 _ hi c (h1.trans hs) fun H5 hs5 => ?_
      have e : H5 D = some (IL (((List.range i).filter kp).map f)) := hs5 D _ (hs D _ h2)
      have ez : (((List.range i).filter kp).map f).map V.int ++ [V.int (f i)] = (((List.range (i + 1)).filter kp).map f).map V.int := by
        rw [List.range_succ, List.filter_append, List.map_append, List.map_append]
        simp [c]
      refine ⟨_, e, ?_, fun b o hb => ?_, ?_⟩
      · rw [List.length_map, List.length_map]
        have := List.length_filter_le kp (List.range i)
        rw [List.length_range] at this
        exact line_lt (by omega)
      · rw [upd_ne (ne_of_none hb hD)]
        exact hs5 _ _ (hs _ _ (h1 b o hb))
      · rw [upd_same, ez]
        rfl
    · rw [if_neg c]
      refine ⟨h1.trans hs, ?_⟩
      rw [hs D _ h2, List.range_succ, List.filter_append]
      simp [c]
  · intro H h
    exact hd H h.1 h.2
theorem lc_tupI {K : PySem.W.Frag} {a : Addr} {xs : List V} {f : Nat → Int} {j : Nat} {te : TE} {vs : List Nat} {σ : L2.St} {H1 : Hp} {D : Addr} {Qd : Hp → Prop} (hn : xs.length ≤ 16777215) (hS : SqT K H1 a xs) (hD : H1 D = none) (hw : ∀ v, wipe ((wipe σ vs).set j v) vs = wipe σ vs)
    (hte : ∀ i x H3 (Q' : VK), xs[i]? = some x → Same H1 H3 → (∀ H4, Same H3 H4 → Q' (.int (f i)) H4) → te ((wipe σ vs).set j (some (x))) H3 Q')
    (hd : ∀ H', Same H1 H' → H' D = some (IL ((List.range xs.length).map f)) → Qd H') :
    ∃ W : Nat → Nat → Hp → Prop, (∃ m, W 0 m (L2.upd H1 D (.lst []))) ∧ ∀ i m H, W i m H →
      ((Itt K a).stop i H ∧ Qd H) ∨ ((Itt K a).go i H ∧ ∃ Nx : Hp → Prop, (∀ H', Nx H' → ∃ m', m' < m ∧ W (i + 1) m' H') ∧ ∀ x H', (Itt K a).yld i H x H' → gName j x (wipe σ vs) H' fun σ2 H2 => wipe σ2 vs = wipe σ vs ∧ tYes σ2 H2 fun b H3 =>
        if b = true then te σ2 H3 fun y H4 => ∃ acc, H4 D = some (.lst acc) ∧ acc.length < sizeLine ∧ Nx (L2.upd H4 D (.lst (acc ++ [y]))) else Nx H3) := by
  refine lc_tup (K := K) (a := a) (xs := xs) (fun i H' => Same H1 H' ∧ H' D = some (IL ((List.range i).map f))) ⟨same_new hD _, upd_same⟩ (fun i H' _ h => ?_) ?_ ?_
  · exact Same.seqT h.1 hS
  · intro i x H hi h
    obtain ⟨h1, h2⟩ := h
    refine ⟨hw _, ?_⟩
    simp only [tYes, if_true]
    refine hte i _ H _ hi h1 fun H4 hs => ?_
    have hlt : i < xs.length := (List.getElem?_eq_some_iff.mp hi).1
    have e : H4 D = some (IL ((List.range i).map f)) := hs D _ h2
    have ez : ((List.range i).map f).map V.int ++ [V.int (f i)] = ((List.range (i + 1)).map f).map V.int := by rw [List.range_succ, List.map_append, List.map_append]; rfl
    refine ⟨_, e, by rw [List.length_map, List.length_map, List.length_range]; exact line_lt (by omega), fun b o hb => ?_, ?_⟩
    · rw [upd_ne (ne_of_none hb hD)]
      exact hs _ _ (h1 b o hb)
    · rw [upd_same, ez]
      rfl
  · intro H h
    exact hd H h.1 h.2
theorem lc_tupF {K : PySem.W.Frag} {a : Addr} {xs : List V} {f : Nat → Int} {kp : Nat → Bool} {tt : TT} {j : Nat} {te : TE} {vs : List Nat} {σ : L2.St} {H1 : Hp} {D : Addr} {Qd : Hp → Prop} (hn : xs.length ≤ 16777215) (hS : SqT K H1 a xs) (hD : H1 D = none) (hw : ∀ v, wipe ((wipe σ vs).set j v) vs = wipe σ vs)
    (htt : ∀ i x H3 (Q' : Bool → Hp → Prop), xs[i]? = some x → Same H1 H3 → (∀ H4, Same H3 H4 → Q' (kp i) H4) → tt ((wipe σ vs).set j (some (x))) H3 Q')
    (hte : ∀ i x H3 (Q' : VK), xs[i]? = some x → kp i = true → Same H1 H3 → (∀ H4, Same H3 H4 → Q' (.int (f i)) H4) → te ((wipe σ vs).set j (some (x))) H3 Q')
    (hd : ∀ H', Same H1 H' → H' D = some (IL (((List.range xs.length).filter kp).map f)) → Qd H') :
    ∃ W : Nat → Nat → Hp → Prop, (∃ m, W 0 m (L2.upd H1 D (.lst []))) ∧ ∀ i m H, W i m H →
      ((Itt K a).stop i H ∧ Qd H) ∨ ((Itt K a).go i H ∧ ∃ Nx : Hp → Prop, (∀ H', Nx H' → ∃ m', m' < m ∧ W (i + 1) m' H') ∧ ∀ x H', (Itt K a).yld i H x H' → gName j x (wipe σ vs) H' fun σ2 H2 => wipe σ2 vs = wipe σ vs ∧ tt σ2 H2 fun b H3 =>
        if b = true then te σ2 H3 fun y H4 => ∃ acc, H4 D = some (.lst acc) ∧ acc.length < sizeLine ∧ Nx (L2.upd H4 D (.lst (acc ++ [y]))) else Nx H3) := by
  refine lc_tup (K := K) (a := a) (xs := xs) (fun i H' => Same H1 H' ∧ H' D = some (IL (((List.range i).filter kp).map f))) ⟨same_new hD _, upd_same⟩ (fun i H' _ h => ?_) ?_ ?_
  · exact Same.seqT h.1 hS
  · intro i x H hi h
    obtain ⟨h1, h2⟩ := h
    refine ⟨hw _, ?_⟩
    refine htt i _ H _ hi h1 fun H4 hs => ?_
    have hlt : i < xs.length := (List.getElem?_eq_some_iff.mp hi).1
    by_cases c : kp i = true
    · rw [if_pos c]
      refine hte i _ H4 _ hi c (h1.trans hs) fun H5 hs5 => ?_
      have e : H5 D = some (IL (((List.range i).filter kp).map f)) := hs5 D _ (hs D _ h2)
      have ez : (((List.range i).filter kp).map f).map V.int ++ [V.int (f i)] = (((List.range (i + 1)).filter kp).map f).map V.int := by
        rw [List.range_succ, List.filter_append, List.map_append, List.map_append]
        simp [c]
      refine ⟨_, e, ?_, fun b o hb => ?_, ?_⟩
      · rw [List.length_map, List.length_map]
        have := List.length_filter_le kp (List.range i)
        rw [List.length_range] at this
        exact line_lt (by omega)
      · rw [upd_ne (ne_of_none hb hD)]
        exact hs5 _ _ (hs _ _ (h1 b o hb))
      · rw [upd_same, ez]
        rfl
    · rw [if_neg c]
      refine ⟨h1.trans hs, ?_⟩
      rw [hs D _ h2, List.range_succ, List.filter_append]
      simp [c]
  · intro H h
    exact hd H h.1 h.2
/-! ### .. any values -/
theorem lc_rangeV {lo : Int} {n : Nat} {f : Nat → V} {j : Nat} {te : TE} {vs : List Nat} {σ : L2.St} {H1 : Hp} {D : Addr} {Qd : Hp → Prop} (hn : n ≤ 16777215) (hD : H1 D = none) (hw : ∀ v, wipe ((wipe σ vs).set j v) vs = wipe σ vs)
    (hte : ∀ i H3 (Q' : VK), i < n → Same H1 H3 → (∀ H4, Same H3 H4 → Q' (f i) H4) → te ((wipe σ vs).set j (some (.int (lo + (i : Nat))))) H3 Q')
    (hd : ∀ H', Same H1 H' → H' D = some (.lst ((List.range n).map f)) → Qd H') :
    ∃ W : Nat → Nat → Hp → Prop, (∃ m, W 0 m (L2.upd H1 D (.lst []))) ∧ ∀ i m H, W i m H →
      ((Itr lo n).stop i H ∧ Qd H) ∨ ((Itr lo n).go i H ∧ ∃ Nx : Hp → Prop, (∀ H', Nx H' → ∃ m', m' < m ∧ W (i + 1) m' H') ∧ ∀ x H', (Itr lo n).yld i H x H' → gName j x (wipe σ vs) H' fun σ2 H2 => wipe σ2 vs = wipe σ vs ∧ tYes σ2 H2 fun b H3 =>
        if b = true then te σ2 H3 fun y H4 => ∃ acc, H4 D = some (.lst acc) ∧ acc.length < sizeLine ∧ Nx (L2.upd H4 D (.lst (acc ++ [y]))) else Nx H3) := by
  refine lc_range (lo := lo) (n := n) (fun i H' => Same H1 H' ∧ H' D = some (.lst ((List.range i).map f))) ⟨same_new hD _, upd_same⟩ ?_ ?_
  · intro i H hi h
    obtain ⟨h1, h2⟩ := h
    refine ⟨hw _, ?_⟩
    simp only [tYes, if_true]
    refine hte i H _ hi h1 fun H4 hs => ?_
    have hlt : i < n := hi
    have e : H4 D = some (.lst ((List.range i).map f)) := hs D _ h2
    have ez : ((List.range i).map f) ++ [f i] = ((List.range (i + 1)).map f) := by rw [List.range_succ, List.map_append]; rfl
    refine ⟨_, e, by rw [List.length_map, List.length_range]; exact line_lt (by omega), fun b o hb => ?_, ?_⟩
    · rw [upd_ne (ne_of_none hb hD)]
      exact hs _ _ (h1 b o hb)
    · rw [upd_same, ez]
  · intro H h
    exact hd H h.1 h.2
theorem lc_rangeVF {lo : Int} {n : Nat} {f : Nat → V} {kp : Nat → Bool} {tt : TT} {j : Nat} {te : TE} {vs : List Nat} {σ : L2.St} {H1 : Hp} {D : Addr} {Qd : Hp → Prop} (hn : n ≤ 16777215) (hD : H1 D = none) (hw : ∀ v, wipe ((wipe σ vs).set j v) vs = wipe σ vs)
    (htt : ∀ i H3 (Q' : Bool → Hp → Prop), i < n → Same H1 H3 → (∀ H4, Same H3 H4 → Q' (kp i) H4) → tt ((wipe σ vs).set j (some (.int (lo + (i : Nat))))) H3 Q')
    (hte : ∀ i H3 (Q' : VK), i < n → kp i = true → Same H1 H3 → (∀ H4, Same H3 H4 → Q' (f i) H4) → te ((wipe σ vs).set j (some (.int (lo + (i : Nat))))) H3 Q')
    (hd : ∀ H', Same H1 H' → H' D = some (.lst (((List.range n).filter kp).map f)) → Qd H') :
    ∃ W : Nat → Nat → Hp → Prop, (∃ m, W 0 m (L2.upd H1 D (.lst []))) ∧ ∀ i m H, W i m H →
      ((Itr lo n).stop i H ∧ Qd H) ∨ ((Itr lo n).go i H ∧ ∃ Nx : Hp → Prop, (∀ H', Nx H' → ∃ m', m' < m ∧ W (i + 1) m' H') ∧ ∀ x H', (Itr lo n).yld i H x H' → gName j x (wipe σ vs) H' fun σ2 H2 => wipe σ2 vs = wipe σ vs ∧ tt σ2 H2 fun b H3 =>
        if b = true then te σ2 H3 fun y H4 => ∃ acc, H4 D = some (.lst acc) ∧ acc.length < sizeLine ∧ Nx (L2.upd H4 D (.lst (acc ++ [y]))) else Nx H3) := by
  refine lc_range (lo := lo) (n := n) (fun i H' => Same H1 H' ∧ H' D = some (.lst (((List.range i).filter kp).map f))) ⟨same_new hD _, upd_same⟩ ?_ ?_
  · intro i H hi h
    obtain ⟨h1, h2⟩ := h
    refine ⟨hw _, ?_⟩
    refine htt i H _ hi h1 fun H4 hs => ?_
    have hlt : i < n := hi
    by_cases c : kp i = true
    · rw [if_pos c]
      refine hte i H4 _ hi c (h1.trans hs) fun H5 hs5 => ?_
      have e : H5 D = some (.lst (((List.range i).filter kp).map f)) := hs5 D _ (hs D _ h2)
      have ez : (((List.range i).filter kp).map f) ++ [f i] = (((List.range (i + 1)).filter kp).map f) := by
        rw [List.range_succ, List.filter_append, List.map_append]
        simp [c]
      refine ⟨_, e, ?_, fun b o hb => ?_, ?_⟩
      · rw [List.length_map]
        have := List.length_filter_le kp (List.range i)
        rw [List.length_range] at this
        exact line_lt (by omega)
      · rw [upd_ne (ne_of_none hb hD)]
        exact hs5 _ _ (hs _ _ (h1 b o hb))
      · rw [upd_same, ez]
    · rw [if_neg c]
      refine ⟨h1.trans hs, ?_⟩
      rw [hs D _ h2, List.range_succ, List.filter_append]
      simp [c]
  · intro H h
    exact hd H h.1 h.2
theorem lc_listV {K : PySem.W.Frag} {a : Addr} {xs : List V} {f : Nat → V} {j : Nat} {te : TE} {vs : List Nat} {σ : L2.St} {H1 : Hp} {D : Addr} {Qd : Hp → Prop} (hn : xs.length ≤ 16777215) (hS : SqL K H1 a xs) (hD : H1 D = none) (hw : ∀ v, wipe ((wipe σ vs).set j v) vs = wipe σ vs)
    (hte : ∀ i x H3 (Q' : VK), xs[i]? = some x → Same H1 H3 → (∀ H4, Same H3 H4 → Q' (f i) H4) → te ((wipe σ vs).set j (some (x))) H3 Q')
    (hd : ∀ H', Same H1 H' → H' D = some (.lst ((List.range xs.length).map f)) → Qd H') :
    ∃ W : Nat → Nat → Hp → Prop, (∃ m, W 0 m (L2.upd H1 D (.lst []))) ∧ ∀ i m H, W i m H →
      ((Itl K a).stop i H ∧ Qd H) ∨ ((Itl K a).go i H ∧ ∃ Nx : Hp → Prop, (∀ H', Nx H' → ∃ m', m' < m ∧ W (i + 1) m' H') ∧ ∀ x H', (Itl K a).yld i H x H' → gName j x (wipe σ vs) H' fun σ2 H2 => wipe σ2 vs = wipe σ vs ∧ tYes σ2 H2 fun b H3 =>
        if b = true then te σ2 H3 fun y H4 => ∃ acc, H4 D = some (.lst acc) ∧ acc.length < sizeLine ∧ Nx (L2.upd H4 D (.lst (acc ++ [y]))) else Nx H3) := by
  refine lc_list (K := K) (a := a) (xs := xs) (fun i H' => Same H1 H' ∧ H' D = some (.lst ((List.range i).map f))) ⟨same_new hD _, upd_same⟩ (fun i H' _ h => ?_) ?_ ?_
  · exact Same.seq h.1 hS
  · intro i x H hi h
    obtain ⟨h1, h2⟩ := h
    refine ⟨hw _, ?_⟩
    simp only [tYes, if_true]
    refine hte i _ H _ hi h1 fun H4 hs => ?_
    have hlt : i < xs.length := (List.getElem?_eq_some_iff.mp hi).1
    have e : H4 D = some (.lst ((List.range i).map f)) := hs D _ h2
    have ez : ((List.range i).map f) ++ [f i] = ((List.range (i + 1)).map f) := by rw [List.range_succ, List.map_append]; rfl
    refine ⟨_, e, by rw [List.length_map, List.length_range]; exact line_lt (by omega), fun b o hb => ?_, ?_⟩
    · rw [upd_ne (ne_of_none hb hD)]
      exact hs _ _ (h1 b o hb)
    · rw [upd_same, ez]
  · intro H h
    exact hd H h.1 h.2
theorem lc_listVF {K : PySem.W.Frag} {a : Addr} {xs : List V} {f : Nat → V} {kp : Nat → Bool} {tt : TT} {j : Nat} {te : TE} {vs : List Nat} {σ : L2.St} {H1 : Hp} {D : Addr} {Qd : Hp → Prop} (hn : xs.length ≤ 16777215) (hS : SqL K H1 a xs) (hD : H1 D = none) (hw : ∀ v, wipe ((wipe σ vs).set j v) vs = wipe σ vs)
    (htt : ∀ i x H3 (Q' : Bool → Hp → Prop), xs[i]? = some x → Same H1 H3 → (∀ H4, Same H3 H4 → Q' (kp i) H4) → tt ((wipe σ vs).set j (some (x))) H3 Q')
    (hte : ∀ i x H3 (Q' : VK), xs[i]? = some x → kp i = true → Same H1 H3 → (∀ H4, Same H3 H4 → Q' (f i) H4) → te ((wipe σ vs).set j (some (x))) H3 Q')
    (hd : ∀ H', Same H1 H' → H' D = some (.lst (((List.range xs.length).filter kp).map f)) → Qd H') :
    ∃ W : Nat → Nat → Hp → Prop, (∃ m, W 0 m (L2.upd H1 D (.lst []))) ∧ ∀ i m H, W i m H →
      ((Itl K a).stop i H ∧ Qd H) ∨ ((Itl K a).go i H ∧ ∃ Nx : Hp → Prop, (∀ H', Nx H' → ∃ m', m' < m ∧ W (i + 1) m' H') ∧ ∀ x H', (Itl K a).yld i H x H' → gName j x (wipe σ vs) H' fun σ2 H2 => wipe σ2 vs = wipe σ vs ∧ tt σ2 H2 fun b H3 =>
        if b = true then te σ2 H3 fun y H4 => ∃ acc, H4 D = some (.lst acc) ∧ acc.length < sizeLine ∧ Nx (L2.upd H4 D (.lst (acc ++ [y]))) else Nx H3) := by
  refine lc_list (K := K) (a := a) (xs := xs) (fun i H' => Same H1 H' ∧ H' D = some (.lst (((List.range i).filter kp).map f))) ⟨same_new hD _, upd_same⟩ (fun i H' _ h => ?_) ?_ ?_
  · exact Same.seq h.1 hS
  · intro i x H hi h
    obtain ⟨h1, h2⟩ := h
    refine ⟨hw _, ?_⟩
    refine htt i _ H _ hi h1 fun H4 hs => ?_
    have hlt : i < xs.length := (List.getElem?_eq_some_iff.mp hi).1
    by_cases c : kp i = true
    · rw [if_pos c]
      refine hte i _ H4 _ hi c (h1.trans hs) fun H5 hs5 => ?_
      have e : H5 D = some (.lst (((List.range i).filter kp).map f)) := hs5 D _ (hs D _ h2)
      have ez : (((List.range i).filter kp).map f) ++ [f i] = (((List.range (i + 1)).filter kp).map f) := by
        rw [List.range_succ, List.filter_append, List.map_append]
        simp [c]
      refine ⟨_, e, ?_, fun b o hb => ?_, ?_⟩
      · rw [List.length_map]
        have := List.length_filter_le kp (List.range i)
        rw [List.length_range] at this
        exact line_lt (by omega)
      · rw [upd_ne (ne_of_none hb hD)]
        exact hs5 _ _ (hs _ _ (h1 b o hb))
      · rw [upd_same, ez]
    · rw [if_neg c]
      refine ⟨h1.trans hs, ?_⟩
      rw [hs D _ h2, List.range_succ, List.filter_append]
      simp [c]
  · intro H h
    exact hd H h.1 h.2
theorem lc_tupV {K : PySem.W.Frag} {a : Addr} {xs : List V} {f : Nat → V} {j : Nat} {te : TE} {vs : List Nat} {σ : L2.St} {H1 : Hp} {D : Addr} {Qd : Hp → Prop} (hn : xs.length ≤ 16777215) (hS : SqT K H1 a xs) (hD : H1 D = none) (hw : ∀ v, wipe ((wipe σ vs).set j v) vs = wipe σ vs)
    (hte : ∀ i x H3 (Q' : VK), xs[i]? = some x → Same H1 H3 → (∀ H4, Same H3 H4 → Q' (f i) H4) → te ((wipe σ vs).set j (some (x))) H3 Q')
    (hd : ∀ H', Same H1 H' → H' D = some (.lst ((List.range xs.length).map f)) → Qd H') :
    ∃ W : Nat → Nat → Hp → Prop, (∃ m, W 0 m (L2.upd H1 D (.lst []))) ∧ ∀ i m H, W i m H →
      ((Itt K a).stop i H ∧ Qd H) ∨ ((Itt K a).go i H ∧ ∃ Nx : Hp → Prop, (∀ H', Nx H' → ∃ m', m' < m ∧ W (i + 1) m' H') ∧ ∀ x H', (Itt K a).yld i H x H' → gName j x (wipe σ vs) H' fun σ2 H2 => wipe σ2 vs = wipe σ vs ∧ tYes σ2 H2 fun b H3 =>
        if b = true then te σ2 H3 fun y H4 => ∃ acc, H4 D = some (.lst acc) ∧ acc.length < sizeLine ∧ Nx (L2.upd H4 D (.lst (acc ++ [y]))) else Nx H3) := by
  refine lc_tup (K := K) (a := a) (xs := xs) (fun i H' => Same H1 H' ∧ H' D = some (.lst ((List.range i).map f))) ⟨same_new hD _, upd_same⟩ (fun i H' _ h => ?_) ?_ ?_
  · exact Same.seqT h.1 hS
  · intro i x H hi h
    obtain ⟨h1, h2⟩ := h
    refine ⟨hw _, ?_⟩
    simp only [tYes, if_true]
    refine hte i _ H _ hi h1 fun H4 hs => ?_
    have hlt : i < xs.length := (List.getElem?_eq_some_iff.mp hi).1
    have e : H4 D = some (.lst ((List.range i).map f)) := hs D _ h2
    have ez : ((List.range i).map f) ++ [f i] = ((List.range (i + 1)).map f) := by rw [List.range_succ, List.map_append]; rfl
    refine ⟨_, e, by rw [List.length_map, List.length_range]; exact line_lt (by omega), fun b o hb => ?_, ?_⟩
    · rw [upd_ne (ne_of_none hb hD)]
      exact hs _ _ (h1 b o hb)
    · rw [upd_same, ez]
  · intro H h
    exact hd H h.1 h.2
theorem lc_tupVF {K : PySem.W.Frag} {a : Addr} {xs : List V} {f : Nat → V} {kp : Nat → Bool} {tt : TT} {j : Nat} {te : TE} {vs : List Nat} {σ : L2.St} {H1 : Hp} {D : Addr} {Qd : Hp → Prop} (hn : xs.length ≤ 16777215) (hS : SqT K H1 a xs) (hD : H1 D = none) (hw : ∀ v, wipe ((wipe σ vs).set j v) vs = wipe σ vs)
    (htt : ∀ i x H3 (Q' : Bool → Hp → Prop), xs[i]? = some x → Same H1 H3 → (∀ H4, Same H3 H4 → Q' (kp i) H4) → tt ((wipe σ vs).set j (some (x))) H3 Q')
    (hte : ∀ i x H3 (Q' : VK), xs[i]? = some x → kp i = true → Same H1 H3 → (∀ H4, Same H3 H4 → Q' (f i) H4) → te ((wipe σ vs).set j (some (x))) H3 Q')
    (hd : ∀ H', Same H1 H' → H' D = some (.lst (((List.range xs.length).filter kp).map f)) → Qd H') :
    ∃ W : Nat → Nat → Hp → Prop, (∃ m, W 0 m (L2.upd H1 D (.lst []))) ∧ ∀ i m H, W i m H →
      ((Itt K a).stop i H ∧ Qd H) ∨ ((Itt K a).go i H ∧ ∃ Nx : Hp → Prop, (∀ H', Nx H' → ∃ m', m' < m ∧ W (i + 1) m' H') ∧ ∀ x H', (Itt K a).yld i H x H' → gName j x (wipe σ vs) H' fun σ2 H2 => wipe σ2 vs = wipe σ vs ∧ tt σ2 H2 fun b H3 =>
        if b = true then te σ2 H3 fun y H4 => ∃ acc, H4 D = some (.lst acc) ∧ acc.length < sizeLine ∧ Nx (L2.upd H4 D (.lst (acc ++ [y]))) else Nx H3) := by
  refine lc_tup (K := K) (a := a) (xs := xs) (fun i H' => Same H1 H' ∧ H' D = some (.lst (((List.range i).filter kp).map f))) ⟨same_new hD _, upd_same⟩ (fun i H' _ h => ?_) ?_ ?_
  · exact Same.seqT h.1 hS
  · intro i x H hi h
    obtain ⟨h1, h2⟩ := h
    refine ⟨hw _, ?_⟩
    refine htt i _ H _ hi h1 fun H4 hs => ?_
    have hlt : i < xs.length := (List.getElem?_eq_some_iff.mp hi).1
    by_cases c : kp i = true
    · rw [if_pos c]
      refine hte i _ H4 _ hi c (h1.trans hs) fun H5 hs5 => ?_
      have e : H5 D = some (.lst (((List.range i).filter kp).map f)) := hs5 D _ (hs D _ h2)
      have ez : (((List.range i).filter kp).map f) ++ [f i] = (((List.range (i + 1)).filter kp).map f) := by
        rw [List.range_succ, List.filter_append, List.map_append]
        simp [c]
      refine ⟨_, e, ?_, fun b o hb => ?_, ?_⟩
      · rw [List.length_map]
        have := List.length_filter_le kp (List.range i)
        rw [List.length_range] at this
        exact line_lt (by omega)
      · rw [upd_ne (ne_of_none hb hD)]
        exact hs5 _ _ (hs _ _ (h1 b o hb))
      · rw [upd_same, ez]
    · rw [if_neg c]
      refine ⟨h1.trans hs, ?_⟩
      rw [hs D _ h2, List.range_succ, List.filter_append]
      simp [c]
  · intro H h
    exact hd H h.1 h.2
def BL (bs : List Bool) : HO := .lst (bs.map V.bl)
def rAllB : List V → Hp → VK → Prop := fun vs H Q => ∃ (a : Addr) (bs : List Bool), vs = [V.ref a] ∧ H a = some (BL bs) ∧ Q (.bl (bs.all id)) H
def rAnyB : List V → Hp → VK → Prop := fun vs H Q => ∃ (a : Addr) (bs : List Bool), vs = [V.ref a] ∧ H a = some (BL bs) ∧ Q (.bl (bs.any id)) H
theorem cr_allB {X : Cx} (hc : X.calm = true) : CallR X (.builtin "all") rAllB := CallR.imp (cr_all hc) fun xs H Q h => by
  obtain ⟨a, bs, e, h1, q⟩ := h
  exact ⟨a, bs, e, .of h1, q⟩
theorem cr_anyB {X : Cx} (hc : X.calm = true) : CallR X (.builtin "any") rAnyB := CallR.imp (cr_any hc) fun xs H Q h => by
  obtain ⟨a, bs, e, h1, q⟩ := h
  exact ⟨a, bs, e, .of h1, q⟩
theorem BL_inj {a b : List Bool} : (BL a = BL b) = (a = b) := by
  apply propext
  constructor
  · intro h
    unfold BL at h
    injection h with h
    exact List.map_inj_right (fun x y e => V.bl.inj e) |>.mp h
  · intro h
    rw [h]
theorem BL_of {H : Hp} {D : Addr} {n : Nat} {f : Nat → Bool} (h : H D = some (.lst ((List.range n).map fun i => V.bl (f i)))) : H D = some (BL ((List.range n).map f)) := by
  rw [h]
  unfold BL
  rw [List.map_map]
  rfl
/-- all of the items of a list, by their places -/
theorem all_items {ns : List Int} {p : Int → Bool} : (((List.range ns.length).map fun i => p (ns.getD i 0)).all id) = ns.all p := by
  induction ns with
  | nil => rfl
  | cons n r ih =>
    rw [List.length_cons, List.range_succ_eq_map, List.map_cons, List.map_map, List.all_cons, List.all_cons, ← ih]
    rfl
end Dw

namespace Dw
open PySem PySem.Spec PyProof.Rows L2
/-- what the top says of an own error class over ValueError, without an __init__ of its own -/
structure ExcF (K : PySem.W.Frag) (mg : Str → Option Value) (x : Str) (C : Addr) : Prop where
  g : mg x = some (.ref C)
  x : PySem.W.excIn K C [.type "ValueError", .type "Exception", .type "BaseException", .type "object"] "ValueError.__new__" = true
  k : PySem.W.keepIn K (.ref C) = true
  b : PySem.W.subIn K (.ref C) (.type "BaseException") = some true
  t : PySem.W.typeIn K (.ref C) = some (.type "type")
  e : PySem.W.exmOne K (.ref C) (.ref C) = some true
theorem exm_selfD {K : PySem.W.Frag} {S : Addr} (h1 : PySem.W.subIn K (.ref S) (.type "BaseException") = some true) (h2 : PySem.W.isClsIn K S = true) (h3 : PySem.W.typeIn K (.ref S) = some (.type "type")) (h4 : PySem.W.subIn K (.ref S) (.ref S) = some true) :
    PySem.W.exmOne K (.ref S) (.ref S) = some true := by
  have e1 : (PySem.W.subIn K (.ref S) (.type "BaseException") == some true) = true := by rw [h1] <;> rfl
  have e2 : ((PySem.W.clsIn K S).isSome && PySem.W.typeIn K (.ref S) == some (.type "type")) = true := by
    have h2' : (PySem.W.clsIn K S).isSome = true := h2
    rw [h2', h3] <;> rfl
  show (if (PySem.W.subIn K (.ref S) (.type "BaseException") == some true) = true then (if ((PySem.W.clsIn K S).isSome && PySem.W.typeIn K (.ref S) == some (.type "type")) = true then PySem.W.subIn K (.ref S) (.ref S) else none) else none) = some true
  rw [if_pos e1, if_pos e2]
  exact h4
/-- an error of another class C, asked for the class S -/
theorem exm_otherD {K : PySem.W.Frag} {C S : Addr} {b : Bool} (h1 : PySem.W.subIn K (.ref S) (.type "BaseException") = some true) (h2 : PySem.W.isClsIn K S = true) (h3 : PySem.W.typeIn K (.ref S) = some (.type "type")) (h4 : PySem.W.subIn K (.ref C) (.ref S) = some b) :
    PySem.W.exmOne K (.ref C) (.ref S) = some b := by
  have e1 : (PySem.W.subIn K (.ref S) (.type "BaseException") == some true) = true := by rw [h1] <;> rfl
  have e2 : ((PySem.W.clsIn K S).isSome && PySem.W.typeIn K (.ref S) == some (.type "type")) = true := by
    have h2' : (PySem.W.clsIn K S).isSome = true := h2
    rw [h2', h3] <;> rfl
  show (if (PySem.W.subIn K (.ref S) (.type "BaseException") == some true) = true then (if ((PySem.W.clsIn K S).isSome && PySem.W.typeIn K (.ref S) == some (.type "type")) = true then PySem.W.subIn K (.ref C) (.ref S) else none) else none) = some b
  rw [if_pos e1, if_pos e2]
  exact h4
/-- isinstance(e, c) of a caught error: its class is told by the reading -/
def rIsX (K : PySem.W.Frag) (D a : Addr) (cls : Value) (d : Option Addr) : List V → Hp → VK → Prop := fun xs H Q => cls = .ref D ∧ d = none ∧ ∃ (c : Addr) (b : Bool), xs = [.ref a, .ref c] ∧ PySem.W.kitOne K (.ref D) (.ref c) = some b ∧ Q (.bl b) H
theorem call_isX {X : Cx} {a D : Addr} {oe : Obj} {pn : List (Addr × Obj)} {cls : Value} {d : Option Addr} (C : ExcC X.K D) (hz : Zc cls d oe) (hf : ∃ vs, oe.data = .fields vs) : CallR (X.suite a ((a, oe) :: pn)) (.builtin "isinstance") (rIsX X.K D a cls d) := by
  intro pins s σ H xs us Q I r h
  obtain ⟨rfl, rfl, c, b, e, k, q⟩ := h
  exact call_isE C hz hf pins s σ H xs us Q I r ⟨.ref c, .ref c, b, e, fun u hu => hu, k, q⟩
/-! ### C(..) within a try -/
section
variable {X : Cx} {CX : CXT} {k : Nat} {f C : Addr} {fd : FuncData} {ps : List Str} {sp : Sp} {E : L2.St → XK} {x : Str} {p pos : Pos} {e : Expr} {es : List Expr} {t : TA}
theorem run_makeS {pins : List (Addr × Obj)} {σ : L2.St} {H : Hp} {s : Shared} {Q : VK} {us : List Value} {vs : List V} (M : Mk X.K C f) (F : FnOk X.prog X.w X.K X.mg X.base CX k f fd ps sp) (hr : Room (k + 1) X.A) (hb : Binds X.K fd ps [])
    (hx : PassesAt CX X σ (E σ)) (I : Inv X pins σ H s) (r : Vals vs us)
    (h : ∀ x dx, H x = none → H dx = none → dx ≠ x → sp (.ref x :: vs) (upd (upd H dx (.own x)) x (.ins C dx [])) (fun v H2 => v = .non ∧ Q (.ref x) H2) (E σ)) :
    wpAny (model X.prog X.w) X.A (call (.ref C) us) (EP X pins σ Q) X.xe s := by
  have hq := h (s.heap.objs.size + 1) s.heap.objs.size (I.hok.fresh (Nat.le_succ _)) (I.hok.fresh (Nat.le_refl _)) (Nat.ne_of_lt (Nat.lt_succ_self _))
  have I2 := Inv.made (C := C) I
  have r2 : Vals (V.ref (s.heap.objs.size + 1) :: vs) (Value.ref (s.heap.objs.size + 1) :: us) := .cons rfl r
  have hl : ((Value.ref (s.heap.objs.size + 1) :: us) ++ []).length = ps.length := by
    have e := r2.length
    rw [F.len _ _ _ _ hq] at e
    rw [List.append_nil]
    exact e.symm
  have bt : BindsTo _ fd ⟨Value.ref (s.heap.objs.size + 1) :: us, []⟩ (ps.zip ((Value.ref (s.heap.objs.size + 1) :: us) ++ [])) := hb _ (Value.ref (s.heap.objs.size + 1) :: us) I2.kIn hl
  rw [List.append_nil] at bt
  refine wpAny_call (make_map (f := f) I.kIn M.makes M.init (beq_iff_eq.mp M.fn) (codeAny_mono (F.run _ X.stack _ _ ⟨Value.ref (s.heap.objs.size + 1) :: us, []⟩ (Value.ref (s.heap.objs.size + 1) :: us) _ _ (E σ) (hr.make C us [])
    (I2.env0.make C us []) bt r2 hq) fun r s' hq' => ?_))
  cases r with
  | error e => exact hx pins _ _ e s' I2 hq'
  | ok fl =>
    cases fl with
    | ret u =>
      obtain ⟨v, H', I3, rv, ev, q3⟩ := I2.after hq'
      subst ev
      exact ⟨rv, ⟨V.ref (s.heap.objs.size + 1), H', I3, rfl, q3⟩⟩
    | next => exact False.elim hq'
    | brk => exact False.elim hq'
    | cont => exact False.elim hq'
def tMakeS (C : Addr) (sp : Sp) (E : L2.St → XK) (t : TA) : TE := fun σ H Q => t σ H fun vs H1 => ∀ x dx, H1 x = none → H1 dx = none → dx ≠ x →
  sp (.ref x :: vs) (upd (upd H1 dx (.own x)) x (.ins C dx [])) (fun v H2 => v = .non ∧ Q (.ref x) H2) (E σ)
theorem pe_makeS (M : Mk X.K C f) (F : FnOk X.prog X.w X.K X.mg X.base CX k f fd ps sp) (hr : Room (k + 1) X.A) (hg : Gl X x) (hm : X.mg x = some (.ref C)) (hb : Binds X.K fd ps []) (hx : ∀ σ, PassesAt CX X σ (E σ))
    (ha : PA X (e :: es) t) (hdb : (x == ("__debug__" : Str)) = false := by decide) (he : starEach (e :: es) X.env = (false, eval e X.env) :: starEach es X.env := by rfl) (hpl : (backTo pos (starEach es X.env)).any (·.1) = false := by rfl) :
    PE X (.Call (.Name x p) (e :: es) [] pos) (tMakeS C sp E t) := by
  refine ⟨fun pins s σ H Q I h => ?_⟩
  refine wpAny_Call_Name_kw (ld_glob I hg hm ?_ hdb)
  refine PySem.W.callWith_K (h₀ := X.base) I.ok.mod.kin M.kp (thn (ha.run pos pins s σ H _ I h) fun us s1 ⟨vs, H1, I1, r, q⟩ => ⟨I1.kIn, ?_⟩) he hpl
  exact run_makeS M F hr hb (hx σ) I1 r q
/-! ### C(..) by a promise of the whole: conv turns it into that of __init__ at the new instance -/
def Conv (C : Addr) (sp rd : Sp) : Prop := ∀ vs H Q E, rd vs H Q E → ∀ x dx, H x = none → H dx = none → dx ≠ x → sp (.ref x :: vs) (upd (upd H dx (.own x)) x (.ins C dx [])) (fun v H2 => v = .non ∧ Q (.ref x) H2) E
def tMakeC (rd : Sp) (E : XK) (t : TA) : TE := fun σ H Q => t σ H fun vs H1 => rd vs H1 Q E
theorem pe_makeC {rd : Sp} {E : XK} (cv : Conv C sp rd) (M : Mk X.K C f) (F : FnOk X.prog X.w X.K X.mg X.base CX k f fd ps sp) (hr : Room (k + 1) X.A) (hg : Gl X x) (hm : X.mg x = some (.ref C)) (hb : Binds X.K fd ps []) (hx : Passes CX X E)
    (ha : PA X (e :: es) t) (hdb : (x == ("__debug__" : Str)) = false := by decide) (he : starEach (e :: es) X.env = (false, eval e X.env) :: starEach es X.env := by rfl) (hpl : (backTo pos (starEach es X.env)).any (·.1) = false := by rfl) :
    PE X (.Call (.Name x p) (e :: es) [] pos) (tMakeC rd E t) := by
  refine ⟨fun pins s σ H Q I h => ?_⟩
  refine wpAny_Call_Name_kw (ld_glob I hg hm ?_ hdb)
  refine PySem.W.callWith_K (h₀ := X.base) I.ok.mod.kin M.kp (thn (ha.run pos pins s σ H _ I h) fun us s1 ⟨vs, H1, I1, r, q⟩ => ⟨I1.kIn, ?_⟩) he hpl
  refine run_make (dvs := []) (ds := []) M F hr hb .nil hx I1 r ?_
  rw [List.append_nil]
  exact cv vs H1 Q E q
def tMakeSC (rd : Sp) (E : L2.St → XK) (t : TA) : TE := fun σ H Q => t σ H fun vs H1 => rd vs H1 Q (E σ)
theorem pe_makeSC {rd : Sp} (cv : Conv C sp rd) (M : Mk X.K C f) (F : FnOk X.prog X.w X.K X.mg X.base CX k f fd ps sp) (hr : Room (k + 1) X.A) (hg : Gl X x) (hm : X.mg x = some (.ref C)) (hb : Binds X.K fd ps []) (hx : ∀ σ, PassesAt CX X σ (E σ))
    (ha : PA X (e :: es) t) (hdb : (x == ("__debug__" : Str)) = false := by decide) (he : starEach (e :: es) X.env = (false, eval e X.env) :: starEach es X.env := by rfl) (hpl : (backTo pos (starEach es X.env)).any (·.1) = false := by rfl) :
    PE X (.Call (.Name x p) (e :: es) [] pos) (tMakeSC rd E t) := by
  refine ⟨fun pins s σ H Q I h => ?_⟩
  refine wpAny_Call_Name_kw (ld_glob I hg hm ?_ hdb)
  refine PySem.W.callWith_K (h₀ := X.base) I.ok.mod.kin M.kp (thn (ha.run pos pins s σ H _ I h) fun us s1 ⟨vs, H1, I1, r, q⟩ => ⟨I1.kIn, ?_⟩) he hpl
  exact run_makeS M F hr hb (hx σ) I1 r (cv vs H1 Q (E σ) q)
/-- what a caller's own wish takes of a callee that may raise -/
theorem passW {X : Cx} {W : WX} (tk : Takes X W) {E : XK} (hW : ∀ cls d σ H, E cls d H → W cls d σ H) : Passes (L2.CX X.prog X.w) X E := passes_call tk hW
end
theorem cxOf_K {CX : CXT} {P : Program} {w : World} {K : PySem.W.Frag} {mg : Str → Option Value} {base : Heap} {N : List Str} {qual : Str} {scope : Scope} {f : Addr} {cd : Value} {A : Around} {outer : List Env} {s : Shared} {H : Hp} {E : XK} :
    (cxOf CX P w K mg base N qual scope f cd A outer s H E).K = K := rfl
theorem nox_K {X : Cx} : X.nox.K = X.K := rfl
theorem tr_K {X : Cx} {pn : List (Addr × Obj)} {xe : Value → Shared → Prop} : (X.tr pn xe).K = X.K := rfl
theorem suite_K {X : Cx} {a : Addr} {pn : List (Addr × Obj)} : (X.suite a pn).K = X.K := rfl
end Dw

namespace Dw
open PySem PySem.Spec PyProof.Rows L2
/-! ### the laws' own small defs -/
def rTupleI : List V → Hp → VK → Prop := fun xs H Q => ∃ p ns, xs = [.ref p] ∧ H p = some (IL ns) ∧ ∀ l, H l = none → Q (.ref l) (upd H l (.tup (ns.map V.int)))
theorem call_tupleI {X : Cx} : CallR X (.type "tuple") rTupleI := CallR.imp call_tuple_of fun xs H Q h => by
  obtain ⟨p, ns, e, h1, q⟩ := h
  exact ⟨p, _, e, .inl ⟨.of h1, q⟩⟩
/-- an item of the script, or 0 -/
def spCell (K : PySem.W.Frag) : Sp := fun vs H Q _ => ∃ (a : Addr) (ns : List Int) (k : Int), vs = [.ref a, .int k] ∧ SqL K H a (ns.map V.int) ∧ 0 ≤ k ∧ ∀ z, Q (.int z) H
def D12 (ns : List Int) : Prop := ∀ z ∈ ns, 0 ≤ z ∧ z < 4096
def spDraws : Sp := fun vs H Q _ => ∃ (c n : Int), vs = [.int c, .int n] ∧ 0 ≤ n ∧ n ≤ 1000 ∧ ∀ r ns H', Same H H' → H r = none → H' r = some (IL ns) → (ns.length : Int) = n → D12 ns → Q (.ref r) H'
def spIsInt : Sp := fun vs H Q _ => ∃ i : Int, vs = [.int i] ∧ Q (.bl true) H
def spInts : Sp := fun vs H Q _ => ∃ (p : Addr) (ns : List Int), ((vs = [.ref p, .str "list"] ∧ H p = some (IL ns)) ∨ (vs = [.ref p, .str "tuple"] ∧ H p = some (.tup (ns.map V.int)))) ∧ Q (.bl true) H
def spIsList : Sp := fun vs H Q _ => ∃ (p u : Addr) (ns : List Int), vs = [.ref p, .ref u] ∧ H p = some (IL ns) ∧ H u = some (IL ns) ∧ Q (.bl true) H
def spIsTuple : Sp := fun vs H Q _ => ∃ (p u : Addr) (ns : List Int), vs = [.ref p, .ref u] ∧ H p = some (.tup (ns.map V.int)) ∧ H u = some (.tup (ns.map V.int)) ∧ Q (.bl true) H
def spIsNumber : Sp := fun vs H Q _ => ∃ i : Int, vs = [.int i, .int i] ∧ Q (.bl true) H
theorem getD_mem {ns : List Int} {k : Nat} (h : k < ns.length) : ns.getD k 0 ∈ ns := by
  rw [List.getD_eq_getElem?_getD, List.getElem?_eq_getElem h]
  exact List.getElem_mem h
theorem D12.get {ns : List Int} (h : D12 ns) {k : Nat} (hk : k < ns.length) : 0 ≤ ns.getD k 0 ∧ ns.getD k 0 < 4096 := h _ (getD_mem hk)
/-! ### reads -/
def readF (t : Addr) (r : Int) : List (Str × V) := [("intervals", .ref t), ("rest", .int r)]
theorem rf_int (t : Addr) (r : Int) : List.lookup ("intervals" : Str) (readF t r) = some (.ref t) := by
  unfold readF
  simp [List.lookup]
theorem rf_rest (t : Addr) (r : Int) : List.lookup ("rest" : Str) (readF t r) = some (.int r) := by
  have e : (("rest" : Str) == ("intervals" : Str)) = false := by decide +kernel
  unfold readF
  simp [List.lookup, e]
theorem rf_put (t : Addr) (r : Int) : putF "rest" (.int r) (putF "intervals" (.ref t) []) = readF t r := by
  have e : ¬ ("intervals" : Str) = "rest" := by decide +kernel
  show putF "rest" (.int r) [("intervals", .ref t)] = _
  unfold putF
  rw [if_neg e]
  rfl
def OkRead (ns : List Int) (rest : Int) : Prop := ns.length ≤ 60000 ∧ (∀ t ∈ ns, 1 ≤ t ∧ t ≤ 1000000) ∧ 0 ≤ rest ∧ rest ≤ 1000000
/-- a read at r -/
def RdAt (C : Addr) (H : Hp) (r : Addr) (ns : List Int) (rest : Int) : Prop := ∃ dx t, H r = some (.ins C dx (readF t rest)) ∧ H t = some (.tup (ns.map V.int))
theorem RdAt.same {C : Addr} {H H' : Hp} {r : Addr} {ns : List Int} {rest : Int} (h : RdAt C H r ns rest) (s : Same H H') : RdAt C H' r ns rest := by
  obtain ⟨dx, t, h1, h2⟩ := h
  exact ⟨dx, t, s _ _ h1, s _ _ h2⟩
def spReadInit (C CE : Addr) : Sp := fun vs H Q E => ∃ (x dx a : Addr) (ns : List Int) (rest : Int), vs = [.ref x, .ref a, .int rest] ∧ H x = some (.ins C dx []) ∧ H a = some (IL ns) ∧
  (OkRead ns rest → ∀ t H', H x ≠ none → SameB x H H' → H t = none → H' x = some (.ins C dx (readF t rest)) → H' t = some (.tup (ns.map V.int)) → Q .non H') ∧
  (¬ OkRead ns rest → ∀ H', Same H H' → E (.ref CE) none H')
/-- Read(intervals, rest) -/
def spRead (C CE : Addr) : Sp := fun vs H Q E => ∃ (a : Addr) (ns : List Int) (rest : Int), vs = [.ref a, .int rest] ∧ H a = some (IL ns) ∧
  (OkRead ns rest → ∀ r H', Same H H' → H r = none → RdAt C H' r ns rest → Q (.ref r) H') ∧ (¬ OkRead ns rest → ∀ H', Same H H' → E (.ref CE) none H')
theorem conv_read {C CE : Addr} : Conv C (spReadInit C CE) (spRead C CE) := by
  intro vs H Q E ⟨a, ns, rest, e, hA, h1, h2⟩ x dx nx nd ne
  subst e
  have s0 : Same H (upd H dx (.own x)) := same_new nd _
  have nx' : upd H dx (.own x) x = none := by rw [upd_ne ne.symm]; exact nx
  have s1 : Same (upd H dx (.own x)) (upd (upd H dx (.own x)) x (.ins C dx [])) := same_new nx' _
  have s := s0.trans s1
  refine ⟨x, dx, a, ns, rest, rfl, upd_same, s _ _ hA, fun ok t H' _ sb nt e1 e2 => ⟨rfl, h1 ok x H' (fun b o hb => sb b o (ne_of_none hb nx) (s b o hb)) nx ⟨dx, t, e1, e2⟩⟩, fun no H' sH => h2 no H' (s.trans sH)⟩
def okCell (c : Int) : Prop := 10 ≤ c ∧ c ≤ 1000
def spIsCell : Sp := fun vs H Q _ => ∃ c : Int, vs = [.int c] ∧ Q (.bl (decide (10 ≤ c) && decide (c ≤ 1000))) H
def spCheckCell (CE : Addr) : Sp := fun vs H Q E => ∃ c : Int, vs = [.int c] ∧ (okCell c → Q .non H) ∧ (¬ okCell c → E (.ref CE) none H)
/-! ### the fixed clock -/
/-- how many cells t ticks stand for -/
def nCells (t c : Int) : Int := (2 * t + c) / (2 * c)
def oneCells (n : Int) : List Int := List.replicate (n - 1).toNat 0 ++ [1]
def fixedZ (ns : List Int) (rest c : Int) : List Int := (ns.map fun t => oneCells (max 1 (nCells t c))).flatten ++ List.replicate (nCells rest c).toNat 0
def fixedP (ns : List Int) (c : Int) : List Int := (ns.map fun t => oneCells (max 1 (nCells t c))).flatten
theorem fixedP_more {ns : List Int} {i : Nat} {t c : Int} (h : ns[i]? = some t) : fixedP (ns.take (i + 1)) c = fixedP (ns.take i) c ++ oneCells (max 1 (nCells t c)) := by
  unfold fixedP
  rw [take_more h, List.map_append, List.flatten_append]
  simp
theorem oneCells_len {n : Int} (h : 1 ≤ n) : ((oneCells n).length : Int) = n := by
  unfold oneCells
  rw [List.length_append, List.length_replicate]
  show (((n - 1).toNat + 1 : Nat) : Int) = n
  omega
/-- the sum of the counts stays small -/
def Few (ns : List Int) (rest c : Int) : Prop := ((fixedP ns c).length : Int) + nCells rest c ≤ 16000000
def spFixed (C CE : Addr) : Sp := fun vs H Q E => ∃ (r : Addr) (c : Int) (ns : List Int) (rest : Int), vs = [.ref r, .int c] ∧ RdAt C H r ns rest ∧ OkRead ns rest ∧
  (okCell c → Few ns rest c ∧ ∀ u H', Same H H' → H u = none → H' u = some (IL (fixedZ ns rest c)) → Q (.ref u) H') ∧ (¬ okCell c → E (.ref CE) none H)
theorem take_len_le {α : Type} (l : List α) (i : Nat) : (l.take i).length ≤ l.length := by rw [List.length_take]; exact Nat.min_le_right _ _
theorem fixedP_take_len (ns : List Int) (c : Int) (i : Nat) : (fixedP (ns.take i) c).length ≤ (fixedP ns c).length := by
  have e : fixedP ns c = fixedP (ns.take i) c ++ fixedP (ns.drop i) c := by
    unfold fixedP
    rw [← List.flatten_append, ← List.map_append, List.take_append_drop]
  rw [e, List.length_append]
  omega
end Dw
namespace Dw
theorem ite_t {c : Bool} {A B : Prop} (hc : c = true) (h : A) : if c = true then A else B := by
  rw [if_pos hc]
  exact h
theorem ite_f {c : Bool} {A B : Prop} (hc : c = false) (h : B) : if c = true then A else B := by
  rw [hc, if_neg Bool.false_ne_true]
  exact h
end Dw
namespace Dw
open PySem PySem.Spec PyProof.Rows L2
theorem fld_of {K : PySem.W.Frag} {C dx r t : Addr} {rest : Int} {H : Hp} {i : Nat} {σ : L2.St} {Q : VK} (hσ : σ[i]? = some (some (.ref r))) (hR : H r = some (.ins C dx (readF t rest))) (cl : Cls K C) (na : NoAttr K C "intervals") (q : Q (.ref t) H) : tFld K (tVar i) "intervals" σ H Q :=
  ⟨_, hσ, r, C, dx, _, _, rfl, hR, cl, na, rf_int t rest, q⟩
theorem fld_rest {K : PySem.W.Frag} {C dx r t : Addr} {rest : Int} {H : Hp} {i : Nat} {σ : L2.St} {Q : VK} (hσ : σ[i]? = some (some (.ref r))) (hR : H r = some (.ins C dx (readF t rest))) (cl : Cls K C) (na : NoAttr K C "rest") (q : Q (.int rest) H) : tFld K (tVar i) "rest" σ H Q :=
  ⟨_, hσ, r, C, dx, _, _, rfl, hR, cl, na, rf_rest t rest, q⟩
theorem upd_self {H : Hp} {a : Addr} {o u : HO} : upd (upd H a o) a u a = some u := upd_same
theorem rep_zero (n : Int) : rep n [0] = List.replicate n.toNat 0 := rep_one n 0
theorem nCells_nn {t c : Int} (ht : 0 ≤ t) (hc : 0 < c) : 0 ≤ nCells t c := Int.ediv_nonneg (by omega) (by omega)
end Dw
namespace Dw
open PySem PySem.Spec PyProof.Rows L2
theorem oneCells_nat {n : Int} (h : 1 ≤ n) : (oneCells n).length = (n - 1).toNat + 1 := by
  unfold oneCells
  rw [List.length_append, List.length_replicate]
  rfl
end Dw
namespace Dw
theorem pick2 {P : Int → Prop} {a b : Int} (ha : P a) (hb : P b) {i : Nat} (h : i < 2) : P ([a, b].getD i 0) := by
  match i, h with
  | 0, _ => exact ha
  | 1, _ => exact hb
theorem pick3 {P : Int → Prop} {a b c : Int} (ha : P a) (hb : P b) (hc : P c) {i : Nat} (h : i < 3) : P ([a, b, c].getD i 0) := by
  match i, h with
  | 0, _ => exact ha
  | 1, _ => exact hb
  | 2, _ => exact hc
theorem pick4 {P : Int → Prop} {a b c d : Int} (ha : P a) (hb : P b) (hc : P c) (hd : P d) {i : Nat} (h : i < 4) : P ([a, b, c, d].getD i 0) := by
  match i, h with
  | 0, _ => exact ha
  | 1, _ => exact hb
  | 2, _ => exact hc
  | 3, _ => exact hd
end Dw
namespace Dw
open PySem PySem.Spec PyProof.Rows L2
theorem fixedP_len_le {c : Int} {M : Nat} (hM : 1 ≤ M) : ∀ {ns : List Int}, (∀ t ∈ ns, nCells t c ≤ (M : Int)) → (fixedP ns c).length ≤ ns.length * M
  | [], _ => Nat.zero_le _
  | t :: r, h => by
    have ih := fixedP_len_le (c := c) hM (ns := r) fun x hx => h x (List.mem_cons_of_mem _ hx)
    have ht := h t List.mem_cons_self
    have e : fixedP (t :: r) c = oneCells (max 1 (nCells t c)) ++ fixedP r c := by
      unfold fixedP
      rw [List.map_cons, List.flatten_cons]
    rw [e, List.length_append, oneCells_nat (by omega), List.length_cons, Nat.succ_mul]
    omega
theorem nCells_le {t c m : Int} (hc : 0 < c) (h : t ≤ m * c) : nCells t c ≤ m := by
  unfold nCells
  have : (2 * t + c) / (2 * c) < m + 1 := Int.ediv_lt_of_lt_mul (by omega) (by
    have e1 : (m + 1) * (2 * c) = 2 * (m * c) + 2 * c := by rw [Int.add_mul, Int.one_mul, Int.mul_left_comm]
    rw [e1]
    omega)
  omega
theorem oneCells_split (n : Int) : List.replicate (n - 1).toNat 0 ++ [1] = oneCells n := rfl
end Dw
namespace Dw
open PySem PySem.Spec PyProof.Rows L2
/-! ### cells as flux -/
def fluxT (c : Int) (s : List Int × Int) (b : Int) : List Int × Int := if b = 1 then (s.1 ++ [c * (s.2 + 1)], 0) else (s.1, s.2 + 1)
def fluxS (c : Int) (cells : List Int) : List Int × Int := cells.foldl (fluxT c) ([], 0)
theorem fluxS_more {c : Int} {cells : List Int} {i : Nat} {b : Int} (h : cells[i]? = some b) : fluxS c (cells.take (i + 1)) = fluxT c (fluxS c (cells.take i)) b := by
  unfold fluxS
  rw [take_more h, List.foldl_append]
  rfl
theorem fluxT_len {c : Int} (s : List Int × Int) (b : Int) : (fluxT c s b).1.length ≤ s.1.length + 1 ∧ 0 ≤ (fluxT c s b).2 ∨ s.2 < 0 := by
  unfold fluxT
  by_cases h : b = 1
  · rw [if_pos h]
    exact .inl ⟨by rw [List.length_append]; exact Nat.le_refl _, Int.le_refl 0⟩
  · rw [if_neg h]
    by_cases h2 : s.2 < 0
    · exact .inr h2
    · exact .inl ⟨Nat.le_succ _, by show 0 ≤ s.2 + 1; omega⟩
theorem fluxS_bound (c : Int) (cells : List Int) : ∀ i, i ≤ cells.length → (fluxS c (cells.take i)).1.length ≤ i ∧ 0 ≤ (fluxS c (cells.take i)).2 ∧ (fluxS c (cells.take i)).2 ≤ i
  | 0, _ => ⟨Nat.le_refl _, Int.le_refl _, Int.le_refl _⟩
  | i + 1, h => by
    obtain ⟨h1, h2, h3⟩ := fluxS_bound c cells i (by omega)
    have e : cells[i]? = some (cells[i]'(by omega)) := List.getElem?_eq_getElem (by omega)
    rw [fluxS_more e]
    unfold fluxT
    split
    · refine ⟨by rw [List.length_append]; show _ + 1 ≤ _; omega, Int.le_refl _, by show (0 : Int) ≤ _; omega⟩
    · exact ⟨by show (fluxS c (List.take i cells)).1.length ≤ i + 1; omega, by show 0 ≤ (fluxS c (List.take i cells)).2 + 1; omega, by show (fluxS c (List.take i cells)).2 + 1 ≤ ((i + 1 : Nat) : Int); omega⟩
def spFlux (C CE CR : Addr) : Sp := fun vs H Q E => ∃ (a : Addr) (c : Int) (cells : List Int), vs = [.ref a, .int c] ∧ H a = some (IL cells) ∧ cells.length ≤ 1000000 ∧
  (okCell c → OkRead (fluxS c cells).1 (c * (fluxS c cells).2) → ∀ r H', Same H H' → H r = none → RdAt C H' r (fluxS c cells).1 (c * (fluxS c cells).2) → Q (.ref r) H') ∧
  (okCell c → ¬ OkRead (fluxS c cells).1 (c * (fluxS c cells).2) → ∀ H', Same H H' → E (.ref CR) none H') ∧ (¬ okCell c → E (.ref CE) none H)
/-! ### ints that are only known to be of a kind -/
theorem lc_rangeP {R : Int → Prop} {lo : Int} {n : Nat} {j : Nat} {te : TE} {vs : List Nat} {σ : L2.St} {H1 : Hp} {D : Addr} {Qd : Hp → Prop} (hn : n ≤ 16777215) (hD : H1 D = none) (hw : ∀ v, wipe ((wipe σ vs).set j v) vs = wipe σ vs)
    (hte : ∀ i H3 (Q' : VK), i < n → Same H1 H3 → (∀ v H4, R v → Same H3 H4 → Q' (.int v) H4) → te ((wipe σ vs).set j (some (.int (lo + (i : Nat))))) H3 Q')
    (hd : ∀ ns H', ns.length = n → (∀ v ∈ ns, R v) → Same H1 H' → H' D = some (IL ns) → Qd H') :
    ∃ W : Nat → Nat → Hp → Prop, (∃ m, W 0 m (L2.upd H1 D (.lst []))) ∧ ∀ i m H, W i m H →
      ((Itr lo n).stop i H ∧ Qd H) ∨ ((Itr lo n).go i H ∧ ∃ Nx : Hp → Prop, (∀ H', Nx H' → ∃ m', m' < m ∧ W (i + 1) m' H') ∧ ∀ x H', (Itr lo n).yld i H x H' → gName j x (wipe σ vs) H' fun σ2 H2 => wipe σ2 vs = wipe σ vs ∧ tYes σ2 H2 fun b H3 =>
        if b = true then te σ2 H3 fun y H4 => ∃ acc, H4 D = some (.lst acc) ∧ acc.length < sizeLine ∧ Nx (L2.upd H4 D (.lst (acc ++ [y]))) else Nx H3) := by
  refine lc_range (lo := lo) (n := n) (fun i H' => Same H1 H' ∧ ∃ ns : List Int, H' D = some (IL ns) ∧ ns.length = i ∧ ∀ v ∈ ns, R v) ⟨same_new hD _, [], upd_same, rfl, fun v h => by cases h⟩ ?_ ?_
  · intro i H hi h
    obtain ⟨h1, ns, h3, h4, h5⟩ := h
    refine ⟨hw _, ?_⟩
    simp only [tYes, if_true]
    refine hte i H _ hi h1 fun v H4 hR hs => ?_
    have e : H4 D = some (IL ns) := hs D _ h3
    have ez : ns.map V.int ++ [V.int v] = (ns ++ [v]).map V.int := by rw [List.map_append]; rfl
    refine ⟨ns.map V.int, e, by rw [List.length_map, h4]; exact line_lt (by omega), fun b o hb => ?_, ns ++ [v], ?_, by rw [List.length_append, h4]; rfl, ?_⟩
    · rw [upd_ne (ne_of_none hb hD)]
      exact hs _ _ (h1 b o hb)
    · rw [upd_same, ez]
      rfl
    · intro x hx
      rcases List.mem_append.mp hx with hx | hx
      · exact h5 x hx
      · rw [List.mem_singleton.mp hx]; exact hR
  · intro H h
    obtain ⟨h1, ns, h3, h4, h5⟩ := h
    exact hd ns H h4 h5 h1 h3
end Dw

namespace Dw
open PySem PySem.Spec PyProof.Rows L2
/-! ### bits, FM, MFM -/
/-- a def of one list of ints that hands back a new one -/
def spL1 (C : List Int → Prop) (f : List Int → List Int) : Sp := fun vs H Q _ => ∃ (a : Addr) (ns : List Int), vs = [.ref a] ∧ H a = some (IL ns) ∧ C ns ∧ ∀ r H', Same H H' → H r = none → H' r = some (IL (f ns)) → Q (.ref r) H'
def CB (ns : List Int) : Prop := Bytes ns ∧ ns.length ≤ 100000
def bitsOf (ns : List Int) : List Int := (ns.map fun n => bits8 n.toNat).flatten
theorem bits8_len (v : Nat) : (bits8 v).length = 8 := rfl
theorem bitsOf_len : ∀ ns : List Int, (bitsOf ns).length = 8 * ns.length
  | [] => rfl
  | n :: r => by
    unfold bitsOf
    rw [List.map_cons, List.flatten_cons, List.length_append, bits8_len]
    have := bitsOf_len r
    unfold bitsOf at this
    rw [this, List.length_cons]
    omega
theorem bitsOf_more {ns : List Int} {i v : Nat} (h : ns[i]? = some (v : Int)) : bitsOf (ns.take (i + 1)) = bitsOf (ns.take i) ++ bits8 v := by
  unfold bitsOf
  rw [take_more h, List.map_append, List.flatten_append]
  simp
/-- each bit behind a 1 -/
def fmZ (bs : List Int) : List Int := (bs.map fun b => [1, b]).flatten
theorem fmZ_len : ∀ bs : List Int, (fmZ bs).length = 2 * bs.length
  | [] => rfl
  | n :: r => by
    unfold fmZ
    rw [List.map_cons, List.flatten_cons, List.length_append]
    have := fmZ_len r
    unfold fmZ at this
    rw [this, List.length_cons]
    show 2 + 2 * r.length = 2 * (r.length + 1)
    omega
theorem fmZ_more {bs : List Int} {i : Nat} {b : Int} (h : bs[i]? = some b) : fmZ (bs.take (i + 1)) = fmZ (bs.take i) ++ [1, b] := by
  unfold fmZ
  rw [take_more h, List.map_append, List.flatten_append]
  simp
def clk (last b : Int) : Int := if last = 0 ∧ b = 0 then 1 else 0
/-- the bit behind a beginning of a list -/
def lastOf (before : Int) (bs : List Int) : Int := bs.getLastD before
def mfmZ (before : Int) (bs : List Int) : List Int := (List.range bs.length).flatMap fun i => [clk (lastOf before (bs.take i)) (bs.getD i 0), bs.getD i 0]
/-- the loop's way: cells so far -/
def mfmF (before : Int) : List Int → List Int
  | [] => []
  | b :: r => clk before b :: b :: mfmF b r
theorem mfmF_len : ∀ (before : Int) (bs : List Int), (mfmF before bs).length = 2 * bs.length
  | _, [] => rfl
  | _, b :: r => by
    show (mfmF b r).length + 1 + 1 = 2 * (r.length + 1)
    rw [mfmF_len b r]
    omega
theorem mfmF_append : ∀ (before : Int) (bs cs : List Int), mfmF before (bs ++ cs) = mfmF before bs ++ mfmF (lastOf before bs) cs
  | _, [], _ => rfl
  | before, b :: r, cs => by
    show clk before b :: b :: mfmF b (r ++ cs) = clk before b :: b :: (mfmF b r ++ mfmF (lastOf before (b :: r)) cs)
    rw [mfmF_append b r cs]
    have : lastOf before (b :: r) = lastOf b r := by
      unfold lastOf
      cases r with
      | nil => rfl
      | cons x t => simp [List.getLastD]
    rw [this]
theorem mfmF_more {before : Int} {bs : List Int} {i : Nat} {b : Int} (h : bs[i]? = some b) : mfmF before (bs.take (i + 1)) = mfmF before (bs.take i) ++ [clk (lastOf before (bs.take i)) b, b] := by
  rw [take_more h, mfmF_append]
  rfl
theorem lastOf_more {before : Int} {bs : List Int} {i : Nat} {b : Int} (h : bs[i]? = some b) : lastOf before (bs.take (i + 1)) = b := by
  rw [take_more h]
  unfold lastOf
  simp
def spClk : Sp := fun vs H Q _ => ∃ a b : Int, vs = [.int a, .int b] ∧ Q (.int (clk a b)) H
def spMfm : Sp := fun vs H Q _ => ∃ (a : Addr) (ns : List Int) (b : Int), vs = [.ref a, .int b] ∧ H a = some (IL ns) ∧ CB ns ∧ ∀ r H', Same H H' → H r = none → H' r = some (IL (mfmF b (bitsOf ns))) → Q (.ref r) H'
theorem bit_div (v k : Nat) : Builtin.bitAnd ((v : Int) / 2 ^ k) 1 = ((v / 2 ^ k % 2 : Nat) : Int) := by rw [zdiv, and1]
end Dw
namespace Dw
open PySem PySem.Spec PyProof.Rows L2
def Bits (bs : List Int) : Prop := ∀ b ∈ bs, b = 0 ∨ b = 1
theorem bits8_bits (v : Nat) : Bits (bits8 v) := by
  intro b hb
  unfold bits8 at hb
  simp only [List.mem_cons, List.not_mem_nil, or_false] at hb
  rcases hb with h | h | h | h | h | h | h | h <;> (subst h; omega)
theorem bitsOf_bits : ∀ ns : List Int, Bits (bitsOf ns)
  | [] => fun b hb => by cases hb
  | n :: r => fun b hb => by
    unfold bitsOf at hb
    rw [List.map_cons, List.flatten_cons] at hb
    rcases List.mem_append.mp hb with hb | hb
    · exact bits8_bits _ b hb
    · exact bitsOf_bits r b hb
theorem bits_at {bs : List Int} {i : Nat} {z : Int} (h : Bits bs) (hz : bs[i]? = some z) : z = 0 ∨ z = 1 := h z (List.mem_of_getElem? hz)
theorem lastOf_bit {before : Int} {bs : List Int} (h0 : before = 0 ∨ before = 1) (h : Bits bs) : lastOf before bs = 0 ∨ lastOf before bs = 1 := by
  unfold lastOf
  cases bs with
  | nil => exact h0
  | cons b r =>
    have : (b :: r).getLastD before ∈ (b :: r) := by
      rw [List.getLastD_cons]
      cases r with
      | nil => exact List.mem_cons_self
      | cons x t =>
        have e : (x :: t).getLastD b = (x :: t).getLast (List.cons_ne_nil _ _) := by simp [List.getLastD]
        rw [e]
        exact List.mem_cons_of_mem _ (List.getLast_mem _)
    exact h _ this
theorem take_bits {bs : List Int} {k : Nat} (h : Bits bs) : Bits (bs.take k) := fun b hb => h b (List.mem_of_mem_take hb)
/-- int(last + bit == 0) -/
theorem clk_sum {a b : Int} (ha : a = 0 ∨ a = 1) (hb : b = 0 ∨ b = 1) : (if a + b = 0 then (1 : Int) else 0) = clk a b := by
  unfold clk
  rcases ha with rfl | rfl <;> rcases hb with rfl | rfl <;> decide
theorem dtl3 {H : Hp} {x y z : V} {d e f : PyData} (h1 : Dt H x d) (h2 : Dt H y e) (h3 : Dt H z f) : DtAll H [x, y, z] [d, e, f] := .cons h1 (.cons h2 (.cons h3 .nil))
theorem shaped_list3 {d e f : PyData} (h1 : d.canLay0 = true) (h2 : e.canLay0 = true) (h3 : f.canLay0 = true) (k1 : d.depth ≤ 6) (k2 : e.depth ≤ 6) (k3 : f.depth ≤ 6) : SeqAt.shaped (.list [d, e, f]) = true ∧ (PyData.list [d, e, f]).depth < 8 := by
  unfold SeqAt.shaped
  simp only [PyData.canLay0, PyData.canLayAll0, PyData.depth, PyData.depthAll, h1, h2, h3, Bool.and_true, Bool.true_and, decide_eq_true_eq]
  have : max d.depth (max e.depth (max f.depth 0)) ≤ 6 := by
    rw [Nat.max_le, Nat.max_le, Nat.max_le]
    exact ⟨k1, k2, k3, Nat.zero_le _⟩
  exact ⟨decide_eq_true (Nat.le_trans (Nat.succ_le_succ this) (by decide)), Nat.lt_of_le_of_lt (Nat.succ_le_succ this) (by decide)⟩
theorem lay_ints (ns : List Int) : (PyData.list (ns.map PyData.int)).canLay0 = true := by rw [PyData.canLay0]; exact canLay_ints ns
theorem dep6_ints (ns : List Int) : (PyData.list (ns.map PyData.int)).depth ≤ 6 := by
  have := depthAll_ints ns
  simp only [PyData.depth]
  omega
end Dw
namespace Dw
open PySem PySem.Spec PyProof.Rows L2
theorem IL_ne {H : Hp} {a b x : Addr} {ns : List Int} {r : List V} (h1 : H a = some (IL ns)) (h2 : H b = some (.lst (.ref x :: r))) : a ≠ b := by
  refine ne_of h1 h2 fun e => ?_
  unfold IL at e
  injection e with e
  cases ns with
  | nil => cases e
  | cons x t => rw [List.map_cons] at e; injection e with e _; cases e
theorem Pool.ne_len {H : Hp} {p q b : Addr} {xs : List V} (h : Pool H p q) (h2 : H b = some (.lst xs)) (hx : xs.length ≠ 5) : p ≠ b := by
  obtain ⟨ns, a, b', c, d, e, _⟩ := h
  refine ne_of e h2 fun z => hx ?_
  unfold PoolL at z
  injection z with z
  rw [← z]
  rfl
theorem Pool.ne_ref {H : Hp} {p q b x : Addr} {r : List V} (h : Pool H p q) (h2 : H b = some (.lst (.ref x :: r))) : q ≠ b := by
  obtain ⟨ns, a, b', c, d, e, e2, _⟩ := h
  exact IL_ne (ns := ns) e2 h2
end Dw

namespace Dw
open PySem PySem.Spec PyProof.Rows L2
theorem nCells_mul {c m e : Int} (hc : 0 < c) (h1 : -c < 2 * e) (h2 : 2 * e < c) : nCells (c * m + e) c = m := by
  unfold nCells
  have e1 : 2 * (c * m + e) + c = (2 * e + c) + m * (2 * c) := by
    have : m * (2 * c) = 2 * (c * m) := by rw [Int.mul_left_comm, Int.mul_comm m c]
    rw [this]
    omega
  rw [e1, Int.add_mul_ediv_right _ _ (by omega), Int.ediv_eq_zero_of_lt (by omega) (by omega)]
  omega
theorem fixedP_congr {c : Int} {ns ms : List Int} (h : ns.map (fun t => nCells t c) = ms.map (fun t => nCells t c)) : fixedP ns c = fixedP ms c := by
  have e : ∀ l : List Int, fixedP l c = ((l.map fun t => nCells t c).map fun n => oneCells (max 1 n)).flatten := by
    intro l
    unfold fixedP
    rw [List.map_map]
    rfl
  rw [e, e, h]
theorem fixedP_append (ns ms : List Int) (c : Int) : fixedP (ns ++ ms) c = fixedP ns c ++ fixedP ms c := by
  unfold fixedP
  rw [List.map_append, List.flatten_append]
theorem replicate_snoc0 (n : Nat) : List.replicate (n + 1) (0 : Int) = List.replicate n 0 ++ [0] := by
  rw [List.replicate_succ']
/-- the clock gives the cells again, behind any beginning -/
theorem flux_back {c : Int} (hc : 0 < c) {cells : List Int} (hb : Bits cells) : ∀ i, i ≤ cells.length →
    fixedP (fluxS c (cells.take i)).1 c ++ List.replicate (fluxS c (cells.take i)).2.toNat 0 = cells.take i ∧ (∀ t ∈ (fluxS c (cells.take i)).1, ∃ m : Int, 1 ≤ m ∧ m ≤ i ∧ t = c * m)
  | 0, _ => ⟨rfl, fun t h => by cases h⟩
  | i + 1, h => by
    obtain ⟨h1, h2⟩ := flux_back hc hb i (by omega)
    have hbd := fluxS_bound c cells i (by omega)
    have e : cells[i]? = some (cells[i]'(by omega)) := List.getElem?_eq_getElem (by omega)
    have hbit := bits_at hb e
    generalize cells[i]'(by omega) = b at e hbit
    rw [fluxS_more e, take_more e]
    generalize fluxS c (cells.take i) = s at h1 h2 hbd
    obtain ⟨is, n⟩ := s
    simp only at h1 h2 hbd ⊢
    unfold fluxT
    rcases hbit with rfl | rfl
    · rw [if_neg (by decide)]
      refine ⟨?_, fun t ht => ?_⟩
      · have : (n + 1).toNat = n.toNat + 1 := by omega
        show fixedP is c ++ List.replicate (n + 1).toNat 0 = _
        rw [this, replicate_snoc0, ← List.append_assoc, h1]
      · obtain ⟨m, m1, m2, m3⟩ := h2 t ht
        exact ⟨m, m1, by omega, m3⟩
    · rw [if_pos rfl]
      have hn : nCells (c * (n + 1)) c = n + 1 := by
        have := nCells_mul (c := c) (m := n + 1) (e := 0) hc (by omega) (by omega)
        rw [Int.add_zero] at this
        exact this
      refine ⟨?_, fun t ht => ?_⟩
      · show fixedP (is ++ [c * (n + 1)]) c ++ List.replicate (0 : Int).toNat 0 = _
        have e1 : fixedP [c * (n + 1)] c = List.replicate n.toNat 0 ++ [1] := by
          unfold fixedP
          rw [List.map_cons, List.map_nil, List.flatten_cons, List.flatten_nil, List.append_nil, hn]
          have : max 1 (n + 1) = n + 1 := by omega
          rw [this]
          unfold oneCells
          have : (n + 1 - 1).toNat = n.toNat := by omega
          rw [this]
        rw [fixedP_append, e1, ← h1]
        simp
      · rcases List.mem_append.mp ht with ht | ht
        · obtain ⟨m, m1, m2, m3⟩ := h2 t ht
          exact ⟨m, m1, by omega, m3⟩
        · rw [List.mem_singleton.mp ht]
          exact ⟨n + 1, by omega, by omega, rfl⟩
theorem flux_back_all {c : Int} (hc : 0 < c) {cells : List Int} (hb : Bits cells) :
    fixedP (fluxS c cells).1 c ++ List.replicate (fluxS c cells).2.toNat 0 = cells ∧ (∀ t ∈ (fluxS c cells).1, ∃ m : Int, 1 ≤ m ∧ m ≤ cells.length ∧ t = c * m) := by
  have h := flux_back hc hb cells.length (Nat.le_refl _)
  rw [List.take_length] at h
  exact h
theorem flux_bound_all (c : Int) (cells : List Int) : (fluxS c cells).1.length ≤ cells.length ∧ 0 ≤ (fluxS c cells).2 ∧ (fluxS c cells).2 ≤ cells.length := by
  have h := fluxS_bound c cells cells.length (Nat.le_refl _)
  rw [List.take_length] at h
  exact h
theorem fixedP_len_bits {c : Int} (hc : 0 < c) {cells : List Int} (hb : Bits cells) : (fixedP (fluxS c cells).1 c).length ≤ cells.length := by
  have h := (flux_back_all hc hb).1
  have e : (fixedP (fluxS c cells).1 c ++ List.replicate (fluxS c cells).2.toNat 0).length = cells.length := by rw [h]
  rw [List.length_append] at e
  omega
end Dw
namespace Dw
open PySem PySem.Spec PyProof.Rows L2
/-! ### the following clock -/
def folN (t p : Int) : Int := max 1 ((32 * t + p) / (2 * p))
def folP (t p c : Int) : Int := min (max (p + (16 * t - folN t p * p) / (8 * folN t p)) (12 * c)) (20 * c)
def folT (c : Int) (s : Int × List Int) (t : Int) : Int × List Int := (folP t s.1 c, s.2 ++ oneCells (folN t s.1))
def folS (c : Int) (ns : List Int) : Int × List Int := ns.foldl (folT c) (16 * c, [])
def folR (rest p : Int) : Int := (32 * rest + p) / (2 * p)
def followZ (ns : List Int) (rest c : Int) : List Int := (folS c ns).2 ++ List.replicate (folR rest (folS c ns).1).toNat 0
theorem folS_more {c : Int} {ns : List Int} {i : Nat} {t : Int} (h : ns[i]? = some t) : folS c (ns.take (i + 1)) = folT c (folS c (ns.take i)) t := by
  unfold folS
  rw [take_more h, List.foldl_append]
  rfl
theorem folS_period {c : Int} (hc : 0 < c) (ns : List Int) : 12 * c ≤ (folS c ns).1 ∧ (folS c ns).1 ≤ 20 * c := by
  have : ∀ (l : List Int) (s : Int × List Int), 12 * c ≤ s.1 → s.1 ≤ 20 * c → 12 * c ≤ (l.foldl (folT c) s).1 ∧ (l.foldl (folT c) s).1 ≤ 20 * c := by
    intro l
    induction l with
    | nil => intro s h1 h2; exact ⟨h1, h2⟩
    | cons t r ih =>
      intro s _ _
      refine ih _ ?_ ?_
      · show 12 * c ≤ folP t s.1 c
        unfold folP
        omega
      · show folP t s.1 c ≤ 20 * c
        unfold folP
        omega
  exact this ns _ (by show 12 * c ≤ 16 * c; omega) (by show 16 * c ≤ 20 * c; omega)
theorem folS_len {c : Int} (ns : List Int) (i : Nat) : (folS c (ns.take i)).2.length ≤ (folS c ns).2.length := by
  have : ∀ (l : List Int) (s : Int × List Int), s.2.length ≤ (l.foldl (folT c) s).2.length := by
    intro l
    induction l with
    | nil => intro s; exact Nat.le_refl _
    | cons t r ih =>
      intro s
      refine Nat.le_trans ?_ (ih _)
      show s.2.length ≤ (s.2 ++ oneCells _).length
      rw [List.length_append]
      omega
  have e : folS c ns = (ns.drop i).foldl (folT c) (folS c (ns.take i)) := by
    unfold folS
    rw [← List.foldl_append, List.take_append_drop]
  rw [e]
  exact this _ _
theorem folN_le {t p m : Int} (hp : 0 < p) (h1 : 1 ≤ m) (h : 32 * t + p < (m + 1) * (2 * p)) : folN t p ≤ m := by
  unfold folN
  have : (32 * t + p) / (2 * p) < m + 1 := Int.ediv_lt_of_lt_mul (by omega) h
  omega
def FewF (ns : List Int) (rest c : Int) : Prop := ((folS c ns).2.length : Int) + folR rest (folS c ns).1 ≤ 16000000
theorem folR_nn {t p : Int} (ht : 0 ≤ t) (hp : 0 < p) : 0 ≤ folR t p := Int.ediv_nonneg (by omega) (by omega)
def spFollow (C CE : Addr) : Sp := fun vs H Q E => ∃ (r : Addr) (c : Int) (ns : List Int) (rest : Int), vs = [.ref r, .int c] ∧ RdAt C H r ns rest ∧ OkRead ns rest ∧
  (okCell c → FewF ns rest c ∧ ∀ u H', Same H H' → H u = none → H' u = some (IL (followZ ns rest c)) → Q (.ref u) H') ∧ (¬ okCell c → E (.ref CE) none H)
end Dw
namespace Dw
theorem folS_len_le {c : Int} (hc : 0 < c) {ns : List Int} (h : ∀ t ∈ ns, t ≤ 6 * c) : (folS c ns).2.length ≤ 8 * ns.length := by
  have : ∀ (l : List Int) (s : Int × List Int), (∀ t ∈ l, t ≤ 6 * c) → 12 * c ≤ s.1 → s.1 ≤ 20 * c → (l.foldl (folT c) s).2.length ≤ s.2.length + 8 * l.length := by
    intro l
    induction l with
    | nil => intro s _ _ _; exact Nat.le_refl _
    | cons t r ih =>
      intro s hl h1 h2
      have ht := hl t List.mem_cons_self
      have hN : folN t s.1 ≤ 8 := folN_le (by omega) (by decide) (by omega)
      have hN1 : 1 ≤ folN t s.1 := by unfold folN; omega
      have := ih (folT c s t) (fun x hx => hl x (List.mem_cons_of_mem _ hx)) (by show 12 * c ≤ folP t s.1 c; unfold folP; omega) (by show folP t s.1 c ≤ 20 * c; unfold folP; omega)
      refine Nat.le_trans this ?_
      show (s.2 ++ oneCells (folN t s.1)).length + _ ≤ _
      rw [List.length_append, oneCells_nat hN1, List.length_cons]
      omega
  have := this ns (16 * c, []) h (by show 12 * c ≤ 16 * c; omega) (by show 16 * c ≤ 20 * c; omega)
  have e : ([] : List Int).length + 8 * ns.length = 8 * ns.length := by simp
  rw [← e]
  exact this
end Dw

namespace Dw
open PySem PySem.Spec PyProof.Rows L2
/-! ### loops under a name, so that a symbolic run stops in front of them -/
def LcW (J : It) (g : TG) (tt : TT) (te : TE) (vs : List Nat) (σ : L2.St) (H1 : Hp) (D : Addr) (Qd : Hp → Prop) : Prop :=
  ∃ W : Nat → Nat → Hp → Prop, (∃ m, W 0 m (L2.upd H1 D (.lst []))) ∧ ∀ i m H, W i m H →
    (J.stop i H ∧ Qd H) ∨ (J.go i H ∧ ∃ Nx : Hp → Prop, (∀ H', Nx H' → ∃ m', m' < m ∧ W (i + 1) m' H') ∧ ∀ x H', J.yld i H x H' → g x (wipe σ vs) H' fun σ2 H2 => wipe σ2 vs = wipe σ vs ∧ tt σ2 H2 fun b H3 =>
        if b = true then te σ2 H3 fun y H4 => ∃ acc, H4 D = some (.lst acc) ∧ acc.length < sizeLine ∧ Nx (L2.upd H4 D (.lst (acc ++ [y]))) else Nx H3)
theorem tLc_eq {wi : TI} {g : TG} {tt : TT} {te : TE} {vs : List Nat} {σ : L2.St} {H : Hp} {Q : VK} :
    tLc wi g tt te vs σ H Q = wi σ H fun J H1 => ∀ D, H1 D = none → LcW J g tt te vs σ H1 D fun H' => Q (.ref D) H' := rfl
def ForW (J : It) (g : TG) (tb : TS) (D : Ends) (σ : L2.St) (H1 : Hp) : Prop := ∃ W : Nat → Nat → L2.St → Hp → Prop, (∃ m, W 0 m σ H1) ∧ ∀ i m σ H, W i m σ H →
  (J.stop i H ∧ D.nx σ H) ∨ (J.go i H ∧ ∃ N : L2.St → Hp → Prop, (∀ σ' H', N σ' H' → ∃ m', m' < m ∧ W (i + 1) m' σ' H') ∧ ∀ x H', J.yld i H x H' → g x σ H' fun σ2 H2 => tb { D with nx := N, ct := N, bk := D.nx } σ2 H2)
theorem tFor_eq {wi : TI} {g : TG} {tb : TS} {D : Ends} {σ : L2.St} {H : Hp} : tFor wi g tb D σ H = wi σ H fun J H1 => ForW J g tb D σ H1 := rfl
end Dw

namespace Dw
open PySem PySem.Spec PyProof.Rows L2
/-! ### lists of lists of ints -/
def RowsAt (H : Hp) (p : Addr) (rs : List (List Int)) : Prop := ∃ as : List Addr, H p = some (.lst (as.map V.ref)) ∧ as.length = rs.length ∧ ∀ i a, as[i]? = some a → H a = some (IL (rs.getD i []))
theorem RowsAt.same {H H' : Hp} {p : Addr} {rs : List (List Int)} (h : RowsAt H p rs) (s : Same H H') : RowsAt H' p rs := by
  obtain ⟨as, h1, h2, h3⟩ := h
  exact ⟨as, s _ _ h1, h2, fun i a e => s _ _ (h3 i a e)⟩
theorem refs_at {as : List Addr} {i : Nat} {x : V} (h : (as.map V.ref)[i]? = some x) : ∃ a, as[i]? = some a ∧ x = .ref a := by
  rw [List.getElem?_map] at h
  cases hh : as[i]? with
  | none => rw [hh] at h; cases h
  | some a => rw [hh] at h; exact ⟨a, rfl, (Option.some.inj h).symm⟩
/-- the lists of lists as data -/
def LL (rs : List (List Int)) : List PyData := rs.map fun r => .list (r.map PyData.int)
theorem dp_LL {K : PySem.W.Frag} {H : Hp} : ∀ (as : List Addr) (rs : List (List Int)), as.length = rs.length → (∀ i a, as[i]? = some a → H a = some (IL (rs.getD i []))) → DpAll K H (as.map V.ref) (LL rs)
  | [], [], _, _ => .nil
  | a :: as, r :: rs, hl, h => .cons (dp_IL (h 0 a rfl)) (dp_LL as rs (by simpa using hl) fun i a e => h (i + 1) a e)
  | [], _ :: _, hl, _ => by simp at hl
  | _ :: _, [], hl, _ => by simp at hl
theorem RowsAt.dp {K : PySem.W.Frag} {H : Hp} {p : Addr} {rs : List (List Int)} (h : RowsAt H p rs) : Dp K H (.ref p) (.list (LL rs)) := by
  obtain ⟨as, h1, h2, h3⟩ := h
  exact .lst (.of h1) (dp_LL as rs h2 h3)
theorem dt_LL {H : Hp} : ∀ (as : List Addr) (rs : List (List Int)), as.length = rs.length → (∀ i a, as[i]? = some a → H a = some (IL (rs.getD i []))) → DtAll H (as.map V.ref) (LL rs)
  | [], [], _, _ => .nil
  | a :: as, r :: rs, hl, h => .cons (dt_IL (h 0 a rfl)) (dt_LL as rs (by simpa using hl) fun i a e => h (i + 1) a e)
  | [], _ :: _, hl, _ => by simp at hl
  | _ :: _, [], hl, _ => by simp at hl
theorem RowsAt.dt {H : Hp} {p : Addr} {rs : List (List Int)} (h : RowsAt H p rs) : Dt H (.ref p) (.list (LL rs)) := by
  obtain ⟨as, h1, h2, h3⟩ := h
  exact .lst h1 (dt_LL as rs h2 h3)
theorem LL_lay : ∀ rs : List (List Int), PyData.canLayAll0 (LL rs) = true
  | [] => rfl
  | r :: rs => by
    show PyData.canLayAll0 (.list (r.map PyData.int) :: LL rs) = true
    rw [PyData.canLayAll0, LL_lay rs, PyData.canLay0, canLay_ints r]
    rfl
theorem LL_depth : ∀ rs : List (List Int), PyData.depthAll (LL rs) ≤ 3
  | [] => by decide
  | r :: rs => by
    show PyData.depthAll (.list (r.map PyData.int) :: LL rs) ≤ 3
    have h1 := LL_depth rs
    have h2 := Dw.depthAll_ints r
    simp only [PyData.depthAll, PyData.depth]
    omega
theorem shaped_LL (rs : List (List Int)) : SeqAt.shaped (.list (LL rs)) = true := by
  have h1 := LL_lay rs
  have h2 := LL_depth rs
  unfold SeqAt.shaped
  rw [Bool.and_eq_true]
  refine ⟨by rw [PyData.canLay0]; exact h1, decide_eq_true ?_⟩
  simp only [PyData.depth]
  omega
theorem eqvAll_LL : ∀ rs ts : List (List Int), PyData.eqvAll (LL rs) (LL ts) = decide (rs = ts)
  | [], [] => by
    show PyData.eqvAll [] [] = _
    rw [PyData.eqvAll]
    rfl
  | [], _ :: _ => by
    show PyData.eqvAll [] (_ :: _) = _
    rw [PyData.eqvAll, decide_eq_false (fun e => by cases e)]
  | _ :: _, [] => by
    show PyData.eqvAll (_ :: _) [] = _
    rw [PyData.eqvAll, decide_eq_false (fun e => by cases e)]
  | r :: rs, t :: ts => by
    show PyData.eqvAll (.list (r.map PyData.int) :: LL rs) (.list (t.map PyData.int) :: LL ts) = _
    rw [PyData.eqvAll, eqvAll_LL rs ts, PyData.eqv, eqvAll_ints]
    by_cases h : r = t
    · subst h
      by_cases h2 : rs = ts
      · subst h2; simp
      · rw [decide_eq_false h2, decide_eq_false (fun e => h2 (List.cons.inj e).2)]; simp
    · rw [decide_eq_false h, decide_eq_false (fun e => h (List.cons.inj e).1)]
      rfl
theorem RowsAt.push {H : Hp} {p u : Addr} {as : List Addr} {rs : List (List Int)} {r : List Int} (h1 : H p = some (.lst (as.map V.ref))) (h2 : as.length = rs.length) (h3 : ∀ i a, as[i]? = some a → H a = some (IL (rs.getD i []))) (hu : H u = some (IL r)) (n : u ≠ p) :
    RowsAt (upd H p (.lst (as.map V.ref ++ [.ref u]))) p (rs ++ [r]) := by
  refine ⟨as ++ [u], by rw [upd_same, List.map_append]; rfl, by rw [List.length_append, List.length_append, h2]; rfl, fun i a e => ?_⟩
  by_cases hi : i < as.length
  · rw [List.getElem?_append_left hi] at e
    have e3 := h3 i a e
    have na : a ≠ p := fun q => by
      subst q
      rw [h1] at e3
      unfold IL at e3
      injection e3 with e3
      injection e3 with e3
      cases as with
      | nil => simp at hi
      | cons b bs =>
        cases hr : rs.getD i [] with
        | nil => rw [hr] at e3; cases e3
        | cons c cs => rw [hr] at e3; cases e3
    rw [upd_ne na, e3]
    rw [List.getD_eq_getElem?_getD, List.getD_eq_getElem?_getD, List.getElem?_append_left (by omega)]
  · have hi' : i = as.length := by
      have := (List.getElem?_eq_some_iff.mp e).1
      rw [List.length_append] at this
      simp at this
      omega
    subst hi'
    rw [List.getElem?_append_right (Nat.le_refl _), Nat.sub_self] at e
    cases e
    rw [upd_ne n, hu, List.getD_eq_getElem?_getD, List.getElem?_append_right (by omega), h2, Nat.sub_self]
    rfl
/-- all but P stands: rows that are not at P -/
theorem RowsAt.sameB {P : Addr} {H H' : Hp} {p : Addr} {rs : List (List Int)} (h : RowsAt H p rs) (s : SameB P H H') (n : p ≠ P) (hn : ∀ ns, H P ≠ some (IL ns)) : RowsAt H' p rs := by
  obtain ⟨as, h1, h2, h3⟩ := h
  exact ⟨as, s _ _ n h1, h2, fun i a e => s _ _ (fun q => by subst q; exact hn _ (h3 i _ e)) (h3 i a e)⟩
theorem Pool.nIL {H : Hp} {p q : Addr} (h : Pool H p q) (ns : List Int) : H p ≠ some (IL ns) := by
  obtain ⟨ss, a, b, c, d, h1, _⟩ := h
  rw [h1]
  intro e
  unfold PoolL IL at e
  injection e with e
  injection e with e
  cases ns with
  | nil => cases e
  | cons n r => rw [List.map_cons] at e; injection e with e _; cases e
theorem RowsAt.pool {H H' : Hp} {P q p : Addr} {rs : List (List Int)} (h : RowsAt H p rs) (hP : Pool H P q) (s : SameB P H H') (n : p ≠ P) : RowsAt H' p rs := h.sameB s n hP.nIL
theorem RowsAt.len {H : Hp} {p : Addr} {rs : List (List Int)} (h : RowsAt H p rs) : ∃ xs, H p = some (.lst xs) ∧ xs.length = rs.length := by
  obtain ⟨as, h1, h2, _⟩ := h
  exact ⟨_, h1, by rw [List.length_map, h2]⟩
/-- [[..] for j in range(n)] of drawn lists -/
theorem lc_rowsP {p q : Addr} {R : List Int → Prop} {lo : Int} {n j : Nat} {te : TE} {vs : List Nat} {σ : L2.St} {H1 : Hp} {D : Addr} {Qd : Hp → Prop} (hn : n ≤ 16777215) (hP : Pool H1 p q) (hD : H1 D = none) (hw : ∀ v, wipe ((wipe σ vs).set j v) vs = wipe σ vs)
    (hte : ∀ i H3 (Q' : VK), i < n → Pool H3 p q → SameB p H1 H3 → (∀ u r H4, R r → Pool H4 p q → SameB p H3 H4 → H3 u = none → H4 u = some (IL r) → Q' (.ref u) H4) → te ((wipe σ vs).set j (some (.int (lo + (i : Nat))))) H3 Q')
    (hd : ∀ rs H', rs.length = n → (∀ r ∈ rs, R r) → Pool H' p q → SameB p H1 H' → RowsAt H' D rs → Qd H') :
    LcW (Itr lo n) (gName j) tYes te vs σ H1 D Qd := by
  have hDp : p ≠ D := hP.ne hD
  have hDq : q ≠ D := hP.ne2 hD
  refine lc_range (lo := lo) (n := n) (fun i H' => Pool H' p q ∧ SameB p H1 H' ∧ ∃ rs : List (List Int), RowsAt H' D rs ∧ rs.length = i ∧ ∀ r ∈ rs, R r) ⟨hP.upd hD, Same.b (same_new hD _), [], ⟨[], upd_same, rfl, fun i a h => by simp at h⟩, rfl, fun v h => by cases h⟩ ?_ ?_
  · intro i H hi h
    obtain ⟨h1, h2, rs, h3, h4, h5⟩ := h
    refine ⟨hw _, ?_⟩
    simp only [tYes, if_true]
    refine hte i H _ hi h1 h2 fun u r H4 hR hP4 hs hu eu => ?_
    have h6 := h3.pool h1 hs hDp.symm
    obtain ⟨as, k1, k2, k3⟩ := h6
    obtain ⟨xs, m1, _⟩ := h3.len
    have nu : u ≠ D := fun e => by subst e; rw [m1] at hu; cases hu
    refine ⟨as.map V.ref, k1, by rw [List.length_map, k2, h4]; exact line_lt (by omega), hP4.ups hDp hDq, ?_, rs ++ [r], RowsAt.push k1 k2 k3 eu nu, by rw [List.length_append, h4]; rfl, ?_⟩
    · intro b o nb hb
      rw [upd_ne (ne_of_none hb hD)]
      exact hs b o nb (h2 b o nb hb)
    · intro x hx
      rcases List.mem_append.mp hx with hx | hx
      · exact h5 x hx
      · rw [List.mem_singleton.mp hx]; exact hR
  · intro H h
    obtain ⟨h1, h2, rs, h3, h4, h5⟩ := h
    exact hd rs H h4 h5 h1 h2 h3
/-- [f(x, y) for x, y in zip(xs, ys)] -/
theorem lc_zipI {K : PySem.W.Frag} {a b : Addr} {xs ys : List Int} {f : Int → Int → Int} {i1 i2 : Nat} {te : TE} {vs : List Nat} {σ : L2.St} {H1 : Hp} {D : Addr} {Qd : Hp → Prop} (hn : xs.length ≤ 16777215) (hx : H1 a = some (IL xs)) (hy : H1 b = some (IL ys)) (hD : H1 D = none)
    (hw : ∀ v w, wipe (((wipe σ vs).set i1 v).set i2 w) vs = wipe σ vs)
    (hte : ∀ (i : Nat) x y H3 (Q' : VK), xs[i]? = some x → ys[i]? = some y → Same H1 H3 → (∀ H4, Same H3 H4 → Q' (.int (f x y)) H4) → te (((wipe σ vs).set i1 (some (.int x))).set i2 (some (.int y))) H3 Q')
    (hd : ∀ H', Same H1 H' → H' D = some (IL (List.zipWith f xs ys)) → Qd H') :
    LcW (Itz K a b) (gTup K 2 (gCons (gName i1) (gCons (gName i2) gNil))) tYes te vs σ H1 D Qd := by
  have hl : (List.zipWith f xs ys).length = min (xs.map V.int).length (ys.map V.int).length := by rw [List.length_zipWith, List.length_map, List.length_map]
  refine lc_it (walk_zip (K := K) (a := a) (b := b) (xs := xs.map V.int) (ys := ys.map V.int) hl) (fun i H' => Same H1 H' ∧ H' D = some (IL ((List.zipWith f xs ys).take i))) ⟨same_new hD _, upd_same⟩ (fun i H _ h => ⟨.of (h.1 _ _ hx), .of (h.1 _ _ hy)⟩) ?_ ?_
  · intro i x H H' hi h hy'
    obtain ⟨h1, h2⟩ := h
    obtain ⟨t, x, y, rfl, nt, rfl, ex, ey⟩ := hy'
    obtain ⟨x, rfl, fx⟩ := ints_at ex
    obtain ⟨y, rfl, fy⟩ := ints_at ey
    refine ⟨t, _, rfl, .of upd_same, rfl, V.int x, [V.int y], rfl, V.int y, [], rfl, rfl, hw _ _, ?_⟩
    simp only [tYes, if_true]
    refine hte i x y _ _ fx fy (h1.trans (same_new nt _)) fun H4 hs => ?_
    have e4 : H4 D = some (IL ((List.zipWith f xs ys).take i)) := hs _ _ (same_new nt _ _ _ h2)
    have em : (List.zipWith f xs ys)[i]? = some (f x y) := by rw [List.getElem?_zipWith, fx, fy]
    refine ⟨_, e4, ?_, fun c o hc => ?_, ?_⟩
    · rw [List.length_map]
      have := List.length_take_le i (List.zipWith f xs ys)
      have h3 : (List.zipWith f xs ys).length ≤ xs.length := by rw [List.length_zipWith]; omega
      have := List.length_take_le' i (List.zipWith f xs ys)
      exact line_lt (by omega)
    · rw [upd_ne (ne_of_none hc hD)]
      exact hs _ _ (same_new nt _ _ _ (h1 _ _ hc))
    · rw [upd_same, take_more em]
      unfold IL
      rw [List.map_append]
      rfl
  · intro H h
    rw [List.take_length] at h
    exact hd H h.1 h.2
theorem any_rng {n : Nat} {f : Nat → Bool} : (((List.range n).map f).any id = true) ↔ ∃ i, i < n ∧ f i = true := by
  rw [List.any_map, List.any_eq_true]
  constructor
  · rintro ⟨i, hi, e⟩
    exact ⟨i, List.mem_range.mp hi, e⟩
  · rintro ⟨i, hi, e⟩
    exact ⟨i, List.mem_range.mpr hi, e⟩
/-! ### data of a small depth -/
def Shal (d : PyData) (k : Nat) : Prop := PyData.canLay0 d = true ∧ d.depth ≤ k
def ShalAll (ds : List PyData) (k : Nat) : Prop := PyData.canLayAll0 ds = true ∧ PyData.depthAll ds ≤ k
theorem Shal.int {i : Int} {k : Nat} : Shal (.int i) (k + 1) := ⟨by simp only [PyData.canLay0], by simp only [PyData.depth]; omega⟩
theorem Shal.bl {i : Bool} {k : Nat} : Shal (.bool i) (k + 1) := ⟨by simp only [PyData.canLay0], by simp only [PyData.depth]; omega⟩
theorem Shal.non {k : Nat} : Shal .none (k + 1) := ⟨by simp only [PyData.canLay0], by simp only [PyData.depth]; omega⟩
theorem ShalAll.ints {ns : List Int} {k : Nat} : ShalAll (ns.map PyData.int) (k + 1) := ⟨canLay_ints ns, by have := Dw.depthAll_ints ns; omega⟩
theorem ShalAll.nil {k : Nat} : ShalAll [] (k + 1) := ⟨by simp only [PyData.canLayAll0], by simp only [PyData.depthAll]; omega⟩
theorem ShalAll.cons {d : PyData} {ds : List PyData} {k : Nat} (a : Shal d k) (b : ShalAll ds k) : ShalAll (d :: ds) k := ⟨by rw [PyData.canLayAll0, a.1, b.1]; rfl, by
  have h1 := a.2
  have h2 := b.2
  simp only [PyData.depthAll]
  omega⟩
theorem Shal.list {ds : List PyData} {k : Nat} (a : ShalAll ds k) : Shal (.list ds) (k + 1) := ⟨by rw [PyData.canLay0]; exact a.1, by have := a.2; simp only [PyData.depth]; omega⟩
theorem Shal.tup {ds : List PyData} {k : Nat} (a : ShalAll ds k) : Shal (.tuple ds) (k + 1) := ⟨by rw [PyData.canLay0]; exact a.1, by have := a.2; simp only [PyData.depth]; omega⟩
theorem same_of {d : PyData} {x y : V} {H : Hp} {Q : VK} {E : XK} (hs : Shal d 7) (hx : Dt H x d) (hy : Dt H y d) (q : Q (.bl true) H) : spSame 8 [x, y] H Q E :=
  ⟨x, y, d, rfl, hx, hy, by have := hs.2; omega, by
    unfold SeqAt.shaped
    rw [Bool.and_eq_true]
    exact ⟨hs.1, decide_eq_true (by have := hs.2; omega)⟩, q⟩
theorem nat_of {z : Int} (h : 0 ≤ z) : ∃ n : Nat, z = (n : Int) := ⟨z.toNat, by omega⟩
theorem ins_at {α : Type} {l : List α} {i j : Nat} {x : α} (hi : i ≤ l.length) : (l.take i ++ [x] ++ l.drop i)[j]? = if j < i then l[j]? else if j = i then some x else l[j - 1]? := by
  have e1 : (l.take i).length = i := by rw [List.length_take]; omega
  by_cases h : j < i
  · rw [if_pos h, List.append_assoc, List.getElem?_append_left (by omega), List.getElem?_take_of_lt h]
  · rw [if_neg h]
    by_cases h2 : j = i
    · rw [if_pos h2, List.append_assoc, List.getElem?_append_right (by omega), e1, h2, Nat.sub_self]
      rfl
    · rw [if_neg h2, List.getElem?_append_right (by rw [List.length_append, e1]; simp; omega), List.length_append, e1, List.getElem?_drop]
      simp only [List.length_cons, List.length_nil]
      congr 1
      omega
theorem RowsAt.ins {H : Hp} {p u : Addr} {as : List Addr} {rs : List (List Int)} {r : List Int} {i : Nat} (hi : i ≤ as.length) (h1 : H p = some (.lst (as.map V.ref))) (h2 : as.length = rs.length) (h3 : ∀ i a, as[i]? = some a → H a = some (IL (rs.getD i []))) (hu : H u = some (IL r)) (n : u ≠ p) :
    RowsAt (upd H p (.lst ((as.map V.ref).take i ++ [.ref u] ++ (as.map V.ref).drop i))) p (rs.take i ++ [r] ++ rs.drop i) := by
  have nas : ∀ i a, as[i]? = some a → a ≠ p := fun i a e q => by
    subst q
    have e3 := h3 i _ e
    rw [h1] at e3
    unfold IL at e3
    injection e3 with e3
    injection e3 with e3
    cases as with
    | nil => simp at e
    | cons b bs =>
      cases hr : rs.getD i [] with
      | nil => rw [hr] at e3; cases e3
      | cons c cs => rw [hr] at e3; cases e3
  refine ⟨as.take i ++ [u] ++ as.drop i, by rw [upd_same, List.map_append, List.map_append, List.map_take, List.map_drop]; rfl, by simp only [List.length_append, List.length_take, List.length_drop, List.length_cons, List.length_nil, h2], fun j a e => ?_⟩
  rw [ins_at hi] at e
  rw [List.getD_eq_getElem?_getD, ins_at (by omega)]
  by_cases c : j < i
  · rw [if_pos c] at e ⊢
    rw [upd_ne (nas _ _ e), h3 _ _ e, List.getD_eq_getElem?_getD]
  · rw [if_neg c] at e ⊢
    by_cases c2 : j = i
    · rw [if_pos c2] at e ⊢
      cases e
      rw [upd_ne n, hu]
      rfl
    · rw [if_neg c2] at e ⊢
      rw [upd_ne (nas _ _ e), h3 _ _ e, List.getD_eq_getElem?_getD]
/-- [list(row) for row in rows] -/
theorem lc_copyRows {K : PySem.W.Frag} {p : Addr} {rs : List (List Int)} {j : Nat} {te : TE} {vs : List Nat} {σ : L2.St} {H1 : Hp} {D : Addr} {Qd : Hp → Prop} (hn : rs.length ≤ 16777215) (hR : RowsAt H1 p rs) (hD : H1 D = none) (hw : ∀ v, wipe ((wipe σ vs).set j v) vs = wipe σ vs)
    (hte : ∀ i a H3 (Q' : VK), i < rs.length → Same H1 H3 → H3 a = some (IL (rs.getD i [])) → (∀ u, H3 u = none → Q' (.ref u) (L2.upd H3 u (IL (rs.getD i [])))) → te ((wipe σ vs).set j (some (.ref a))) H3 Q')
    (hd : ∀ H', Same H1 H' → RowsAt H' D rs → Qd H') :
    LcW (Itl K p) (gName j) tYes te vs σ H1 D Qd := by
  obtain ⟨as, hp, hl, ha⟩ := hR
  refine lc_list (K := K) (a := p) (xs := as.map V.ref) (fun i H' => Same H1 H' ∧ RowsAt H' D (rs.take i)) ⟨same_new hD _, [], upd_same, by simp, fun j b h => by simp at h⟩ (fun i H' _ h => Same.seq h.1 (.of hp)) ?_ ?_
  · intro i x H' hx h
    obtain ⟨s7, cs, e7, hl7, hcs⟩ := h
    refine ⟨hw _, ?_⟩
    simp only [tYes, if_true]
    obtain ⟨a, hai, rfl⟩ := refs_at hx
    have hlt : i < as.length := (List.getElem?_eq_some_iff.mp hai).1
    have e8 := s7 _ _ (ha i a hai)
    refine hte i a H' _ (by omega) s7 e8 fun u hu => ?_
    have nu : D ≠ u := ne_of_none e7 hu
    have hP := RowsAt.push (H := L2.upd H' u (IL (rs.getD i []))) (p := D) (u := u) (as := cs) (rs := rs.take i) (r := rs.getD i []) (by rw [upd_ne nu]; exact e7) hl7 (fun j b e => same_new hu _ _ _ (hcs j b e)) upd_same nu.symm
    have et : rs.take (i + 1) = rs.take i ++ [rs.getD i []] := by
      rw [List.take_succ, List.getD_eq_getElem?_getD, List.getElem?_eq_getElem (by omega)]
      rfl
    have hcl : cs.length ≤ rs.length := by
      rw [hl7, List.length_take]
      omega
    refine ⟨_, by rw [upd_ne nu]; exact e7, by rw [List.length_map]; exact line_lt (by omega), fun b o hb' => ?_, ?_⟩
    · rw [upd_ne (ne_of_none hb' hD)]
      exact same_new hu _ _ _ (s7 _ _ hb')
    · rw [et]
      exact hP
  · intro H6 h
    obtain ⟨s7, hR6⟩ := h
    rw [List.length_map, hl, List.take_length] at hR6
    exact hd H6 s7 hR6
end Dw

namespace Dw
open PySem PySem.Spec PyProof.Rows L2
/-! ### numbers as digits of the base 128 -/
def digs (n : Nat) : List Int := if h : n > 127 then (128 + ((n % 128 : Nat) : Int)) :: digs (n / 128) else [(n : Int)]
termination_by n
decreasing_by omega
theorem digs_big {n : Nat} (h : n > 127) : digs n = (128 + ((n % 128 : Nat) : Int)) :: digs (n / 128) := by
  rw [digs, dif_pos h]
theorem digs_small {n : Nat} (h : ¬ n > 127) : digs n = [(n : Int)] := by
  rw [digs, dif_neg h]
theorem digs_len : ∀ (k n : Nat), n < 128 ^ (k + 1) → (digs n).length ≤ k + 1
  | 0, n, h => by
    rw [digs_small (by omega)]
    exact Nat.le_refl _
  | k + 1, n, h => by
    by_cases c : n > 127
    · rw [digs_big c, List.length_cons]
      have := digs_len k (n / 128) (by
        rw [Nat.div_lt_iff_lt_mul (by decide)]
        rw [Nat.pow_succ] at h
        exact h)
      omega
    · rw [digs_small c]
      exact Nat.le_add_left _ _
/-- how many digits there are in front of the last one -/
def lead : List Int → Nat
  | [] => 0
  | x :: r => if x > 127 then lead r + 1 else 0
def valD (ds : List Int) : Int := ds.foldr (fun d acc => acc * 128 + d % 128) 0
theorem valD_snoc : ∀ (ds : List Int) (x : Int), valD (ds ++ [x]) = valD ds + 128 ^ ds.length * (x % 128)
  | [], x => by
    show 0 * 128 + x % 128 = 0 + 128 ^ 0 * (x % 128)
    simp
  | d :: r, x => by
    have ih := valD_snoc r x
    show valD (r ++ [x]) * 128 + d % 128 = valD r * 128 + d % 128 + 128 ^ (r.length + 1) * (x % 128)
    rw [ih, Int.add_mul, Int.pow_succ, Int.mul_right_comm]
    omega
theorem lead_le : ∀ ns : List Int, lead ns ≤ ns.length
  | [] => Nat.le_refl _
  | x :: r => by
    have := lead_le r
    show (if x > 127 then lead r + 1 else 0) ≤ r.length + 1
    split <;> omega
theorem lead_at : ∀ {ns : List Int} {i : Nat}, i < lead ns → ∃ x, ns[i]? = some x ∧ x > 127
  | [], _, h => absurd h (Nat.not_lt_zero _)
  | x :: r, i, h => by
    unfold lead at h
    by_cases c : x > 127
    · rw [if_pos c] at h
      cases i with
      | zero => exact ⟨x, rfl, c⟩
      | succ i => exact lead_at (ns := r) (i := i) (by omega)
    · rw [if_neg c] at h
      exact absurd h (Nat.not_lt_zero _)
theorem lead_stop : ∀ {ns : List Int} {x : Int}, ns[lead ns]? = some x → ¬ x > 127
  | [], _, h => by cases h
  | y :: r, x, h => by
    unfold lead at h
    by_cases c : y > 127
    · rw [if_pos c, List.getElem?_cons_succ] at h
      exact lead_stop h
    · rw [if_neg c] at h
      cases h
      exact c
theorem lead_eq {ns : List Int} {i : Nat} {x : Int} (h1 : i ≤ lead ns) (h2 : ns[i]? = some x) (h3 : ¬ x > 127) : lead ns = i := by
  apply Classical.byContradiction
  intro c
  obtain ⟨y, e, hy⟩ := lead_at (ns := ns) (i := i) (by omega)
  rw [h2] at e
  cases e
  exact h3 hy
theorem lead_digs : ∀ (n : Nat) (r : List Int), lead (digs n ++ r) + 1 = (digs n).length := by
  intro n
  induction n using Nat.strongRecOn with
  | ind n ih =>
    intro r
    by_cases c : n > 127
    · rw [digs_big c, List.cons_append, List.length_cons]
      unfold lead
      rw [if_pos (by omega), ih (n / 128) (by omega) r]
    · rw [digs_small c]
      show lead ((n : Int) :: r) + 1 = 1
      unfold lead
      rw [if_neg (by omega)]
theorem val_digs : ∀ n : Nat, valD (digs n) = (n : Int) := by
  intro n
  induction n using Nat.strongRecOn with
  | ind n ih =>
    by_cases c : n > 127
    · rw [digs_big c]
      show valD (digs (n / 128)) * 128 + (128 + ((n % 128 : Nat) : Int)) % 128 = _
      rw [ih (n / 128) (by omega)]
      omega
    · rw [digs_small c]
      show 0 * 128 + (n : Int) % 128 = _
      omega
theorem last_digs : ∀ n : Nat, 1 < (digs n).length → (digs n).getD ((digs n).length - 1) 0 ≠ 0 := by
  intro n
  induction n using Nat.strongRecOn with
  | ind n ih =>
    intro h
    by_cases c : n > 127
    · have hl : 0 < (digs (n / 128)).length := by
        have := lead_digs (n / 128) []
        omega
      rw [digs_big c, List.length_cons]
      have e : (digs (n / 128)).length + 1 - 1 = ((digs (n / 128)).length - 1) + 1 := by omega
      rw [e, List.getD_cons_succ]
      by_cases h2 : 1 < (digs (n / 128)).length
      · exact ih (n / 128) (by omega) h2
      · have c2 : ¬ n / 128 > 127 := fun c2 => by
          rw [digs_big c2, List.length_cons] at h2
          have := lead_digs (n / 128 / 128) []
          omega
        rw [digs_small c2]
        show ((n / 128 : Nat) : Int) ≠ 0
        omega
    · rw [digs_small c] at h
      exact absurd h (Nat.lt_irrefl _)
/-- the number that begins at a place, and the place behind it -/
def rdZ (ns : List Int) (i : Nat) : Option (Int × Nat) :=
  let m := lead (ns.drop i)
  if i + m < ns.length ∧ ¬ (0 < m ∧ ns.getD (i + m) 0 = 0) then some (valD ((ns.drop i).take (m + 1)), i + m + 1) else none
theorem rd_digs (pre : List Int) (n : Nat) (r : List Int) : rdZ (pre ++ digs n ++ r) pre.length = some ((n : Int), pre.length + (digs n).length) := by
  have hd : (pre ++ digs n ++ r).drop pre.length = digs n ++ r := by
    rw [List.append_assoc, List.drop_left]
  have hl := lead_digs n r
  have hg : ∀ i, (pre ++ digs n ++ r).getD (pre.length + i) 0 = (digs n ++ r).getD i 0 := fun i => by
    rw [List.append_assoc, List.getD_eq_getElem?_getD, List.getElem?_append_right (by omega), List.getD_eq_getElem?_getD]
    congr 2
    omega
  unfold rdZ
  simp only [hd, hg]
  rw [if_pos]
  · have e : lead (digs n ++ r) + 1 = (digs n).length := hl
    rw [e, List.take_left, val_digs, ← e]
    rfl
  · refine ⟨by rw [List.length_append, List.length_append]; omega, fun ⟨h1, h2⟩ => ?_⟩
    have e : lead (digs n ++ r) = (digs n).length - 1 := by omega
    rw [e, List.getD_eq_getElem?_getD, List.getElem?_append_left (by omega), ← List.getD_eq_getElem?_getD] at h2
    exact last_digs n (by omega) h2
theorem cdivW_r {i j : Int} (h1 : 0 < j) (h2 : j < 18446744073709551616) : CDivW i j = True := eq_true ⟨h1, by
  have h3 : j.natAbs < 2 ^ 64 := by omega
  have h4 : j.natAbs ≠ 0 := by omega
  have := (Nat.log2_lt h4).mpr h3
  omega⟩
def spDrawW : Sp := fun vs H Q _ => ∃ (p q : Addr) (m : Int), vs = [.ref p, .int m] ∧ Pool H p q ∧ 0 < m ∧ m < 18446744073709551616 ∧ ∀ r H', 0 ≤ r → r < m → Pool H' p q → SameB p H H' → Q (.int r) H'
theorem drawW {vs : List V} {H : Hp} {Q : VK} {E : XK} (h : spDraw vs H Q E) : spDrawW vs H Q E := by
  obtain ⟨p, q, m, e, h1, h2, h3, k⟩ := h
  exact ⟨p, q, m, e, h1, h2, by omega, k⟩
def spWriteNumber : Sp := fun vs H Q _ => ∃ n : Nat, vs = [.int n] ∧ n < 128 ^ 100 ∧ ∀ D H', Same H H' → H D = none → H' D = some (IL (digs n)) → Q (.ref D) H'
def spReadNumber (CE : Addr) : Sp := fun vs H Q E => ∃ (a : Addr) (ns : List Int) (i : Nat), vs = [.ref a, .int i] ∧ H a = some (IL ns) ∧ ns.length ≤ 1000000 ∧
  (∀ v k, rdZ ns i = some (v, k) → ∀ t H', Same H H' → H t = none → H' t = some (.tup [.int v, .int (k : Int)]) → Q (.ref t) H') ∧ (rdZ ns i = none → ∀ H', Same H H' → E (.ref CE) none H')
theorem cutI_nat {ns : List Int} {i j : Nat} (h : i ≤ j) (h2 : j ≤ ns.length) : cutI ns (some (i : Int)) (some (j : Int)) = (ns.drop i).take (j - i) := by
  unfold cutI
  rw [HT.sIx_nat, HT.sIx_nat, Nat.min_eq_left h2, Nat.min_eq_left (Nat.le_trans h h2)]
theorem valD_drop {ds : List Int} {t : Nat} {x : Int} (h : t < ds.length) (hx : ds[ds.length - 1 - t]? = some x) : valD (ds.drop (ds.length - (t + 1))) = valD (ds.drop (ds.length - t)) * 128 + x % 128 := by
  have h1 : ds.length - (t + 1) < ds.length := by omega
  have e : ds.length - (t + 1) + 1 = ds.length - t := by omega
  have e2 : ds.length - 1 - t = ds.length - (t + 1) := by omega
  rw [e2, List.getElem?_eq_getElem h1] at hx
  rw [List.drop_eq_getElem_cons h1, e, Option.some.inj hx]
  rfl
end Dw

namespace Dw
open PySem PySem.Spec PyProof.Rows L2
/-! ### xs[lo:hi:c] of a list, c written and positive -/
def picks {α : Type} (xs : List α) (lo hi : Option Int) (c : Int) : List α :=
  (sliceRange (sliceBounds lo hi (some c) xs.length).1 (sliceBounds lo hi (some c) xs.length).2.1 (sliceBounds lo hi (some c) xs.length).2.2).filterMap (xs[·]?)
theorem vals_pick {xs : List V} {us : List Value} (r : Vals xs us) : ∀ is : List Nat, Vals (is.filterMap (xs[·]?)) (is.filterMap (us[·]?))
  | [] => .nil
  | i :: is => by
    have ih := vals_pick r is
    rw [List.filterMap_cons, List.filterMap_cons]
    cases e : xs[i]? with
    | none =>
      rw [Vals.none_of r e]
      exact ih
    | some x =>
      obtain ⟨u, eu, ru⟩ := Vals.get r e
      rw [eu]
      exact .cons ru ih
theorem picks_map {α β : Type} (f : α → β) (xs : List α) (lo hi : Option Int) (c : Int) : picks (xs.map f) lo hi c = (picks xs lo hi c).map f := by
  unfold picks
  rw [List.length_map, List.map_filterMap]
  congr 1
  funext i
  rw [List.getElem?_map]
/-- what is asked, by values: any reading that gives this -/
def SlcOk (K : PySem.W.Frag) (c : Int) (rd : V → Option Int → Option Int → Hp → VK → Prop) : Prop := ∀ x l u H Q, rd x l u H Q → ∃ a xs, x = .ref a ∧ SqL K H a xs ∧ ∀ p, H p = none → Q (.ref p) (upd H p (.lst (picks xs l u c)))
def rSlCI (c : Int) : V → Option Int → Option Int → Hp → VK → Prop := fun x l u H Q => ∃ a ns, x = .ref a ∧ H a = some (IL ns) ∧ ∀ p, H p = none → Q (.ref p) (upd H p (IL (picks ns l u c)))
theorem slcI {K : PySem.W.Frag} {c : Int} : SlcOk K c (rSlCI c) := fun x l u H Q h => by
  obtain ⟨a, ns, e, h1, q⟩ := h
  refine ⟨a, _, e, .of h1, fun p hp => ?_⟩
  rw [picks_map]
  exact q p hp
section
variable {X : Cx}
theorem pe_sliceC {e : Expr} {lo hi : Option Expr} {te : TE} {tl th : TO} {rd : V → Option Int → Option Int → Hp → VK → Prop} {c : Int} {k : Nat} {p1 p3 pos : Pos} (ok : SlcOk X.K c rd) (hc : (some c : Option Int) ≠ some 0) (he : PE X e te) (hl : PO X lo tl) (hu : PO X hi th) :
    PE X (.Subscript e (.Slice lo hi (some (.Constant (.int c) k p1)) p3) pos) (tSl rd te tl th) := by
  refine ⟨fun pins s σ H Q I h => ?_⟩
  refine Subscript_ (thn (he.run pins s σ H _ I h) fun v s1 ⟨x, H1, I1, r1, q1⟩ => ?_)
  have hst : PO X (some (.Constant (.int c) k p1)) (tPart (tC (.int c))) := po_some pe_int
  refine wpAny_Slice (thn (hl.run pins s1 σ H1 _ I1 q1) fun vl s2 ⟨l, H2, I2, pl, q2⟩ => ?_)
  refine thn (hu.run pins s2 σ H2 _ I2 q2) fun vu s3 ⟨u, H3, I3, pu, q3⟩ => ?_
  obtain ⟨a, xs, ex, hx, q⟩ := ok _ _ _ _ _ q3
  subst ex
  cases r1
  refine thn (hst.run pins s3 σ H3 (fun o H4 => o = some c ∧ H4 = H3) I3 ⟨c, rfl, rfl, rfl⟩) fun vs s4 ⟨o, H4, I4, ps, eo, e4⟩ => ?_
  subst eo e4
  have I5 : Inv X pins σ H4 { s4 with heap := s4.heap.push { cls := .type "slice", data := .fields #[vl, vu, vs] } } := I4.kept (t' := s4.toks) fun b ob q => Heap.get?_push_of_some _ q
  obtain ⟨its, r, ht, hz⟩ := I5.list hx
  have hlen := r.length
  show wpAny (model X.prog X.w) X.A (subscriptTail e (.Slice lo hi (some (.Constant (.int c) k p1)) p3) (.ref a) (.ref s4.heap.objs.size)) (EP X pins σ Q) X.xe { s4 with heap := s4.heap.push { cls := .type "slice", data := .fields #[vl, vu, vs] } }
  refine tail_any (ops := [.ref a, .ref s4.heap.objs.size]) ht.isList.typeIs (PySem.slot_list_getitem.lookup) ?_ (by with_unfolding_all rfl)
  refine wpAny_getItem_list_slice ht.isList (Heap.IsSliceOf.new _ vl vu vs) pl pu ps hc ?_ (by rw [List.size_toArray]; omega)
  have ep : slicePick its.toArray l u (some c) = (picks its l u c).toArray := by
    unfold slicePick picks
    rw [List.size_toArray]
    congr 2
    funext i
    exact List.getElem?_toArray ..
  rw [ep]
  have hle := slicePick_size_le its.toArray l u (some c)
  rw [ep, List.size_toArray, List.size_toArray] at hle
  have hv : Vals (picks xs l u c) (picks its l u c) := by
    unfold picks
    rw [hlen]
    exact vals_pick r _
  refine ⟨.ref _, _, I5.laid (t' := s4.toks) (o := .lst (picks xs l u c)) (fun b ob q => Heap.get?_push_of_some _ q) (Nat.le_refl _) ?_, rfl, q _ (I5.hok.fresh (Nat.le_refl _))⟩
  exact ⟨by rw [hv.length]; omega, _, 0, hv, Heap.get?_push_size _ rfl⟩
end
/-! every c-th one -/
theorem filterMap_some {α β : Type} {g : α → Option β} {h : α → β} : ∀ {l : List α}, (∀ i ∈ l, g i = some (h i)) → l.filterMap g = l.map h
  | [], _ => rfl
  | x :: r, q => by
    rw [List.filterMap_cons, q x List.mem_cons_self, List.map_cons, filterMap_some fun i hi => q i (List.mem_cons_of_mem _ hi)]
theorem range_pick {ns : List Int} {a c n : Nat} (hc : 0 < c) (ha : a ≤ n) (hn : n ≤ ns.length) :
    (sliceRange (a : Int) (n : Int) (c : Int)).filterMap (ns[·]?) = (List.range ((n - a + c - 1) / c)).map fun i => ns.getD (a + c * i) 0 := by
  have hcount : (if (c : Int) > 0 then (if (a : Int) < (n : Int) then ((n : Int) - (a : Int) + (c : Int) - 1) / (c : Int) else 0) else (if (a : Int) > (n : Int) then ((a : Int) - (n : Int) - (c : Int) - 1) / (-(c : Int)) else 0)).toNat = (n - a + c - 1) / c := by
    rw [if_pos (by omega)]
    by_cases h : a < n
    · rw [if_pos (by omega)]
      have e : (n : Int) - (a : Int) + (c : Int) - 1 = ((n - a + c - 1 : Nat) : Int) := by omega
      rw [e, ← Int.natCast_ediv, Int.toNat_natCast]
    · rw [if_neg (by omega)]
      have e : n - a + c - 1 = c - 1 := by omega
      rw [e, Nat.div_eq_of_lt (by omega)]
      rfl
  unfold sliceRange
  simp only
  rw [hcount, List.filterMap_map]
  refine filterMap_some fun i hi => ?_
  rw [List.mem_range] at hi
  have h1 : c * ((n - a + c - 1) / c) ≤ n - a + c - 1 := Nat.mul_div_le _ _
  have h2 : c * (i + 1) ≤ c * ((n - a + c - 1) / c) := Nat.mul_le_mul_left c hi
  rw [Nat.mul_add, Nat.mul_one] at h2
  have h3 : a + c * i < ns.length := by omega
  have e : ((a : Int) + (c : Int) * (i : Int)).toNat = a + c * i := by
    have : (c : Int) * (i : Int) = ((c * i : Nat) : Int) := by rw [Int.natCast_mul]
    omega
  simp only [Function.comp]
  rw [e, List.getElem?_eq_getElem h3, List.getD_eq_getElem?_getD, List.getElem?_eq_getElem h3]
  rfl
theorem range_none {ns : List Int} {a b c : Int} (hc : 0 < c) (h : b ≤ a) : (sliceRange a b c).filterMap (ns[·]?) = [] := by
  unfold sliceRange
  simp only
  rw [if_pos hc, if_neg (by omega)]
  rfl
theorem picks_to {ns : List Int} {a c n : Nat} (hc : 0 < c) (hn : n ≤ ns.length) :
    picks ns (some (a : Int)) (some (n : Int)) (c : Int) = (List.range ((n - a + c - 1) / c)).map fun i => ns.getD (a + c * i) 0 := by
  have hb : sliceBounds (some (a : Int)) (some (n : Int)) (some (c : Int)) ns.length = (((min a ns.length : Nat) : Int), (n : Int), (c : Int)) := by
    have h1 : (c : Int) > 0 := by omega
    have h2 : ¬ (a : Int) < 0 := by omega
    have h3 : ¬ (n : Int) < 0 := by omega
    simp only [sliceBounds, Option.getD_some, h1, h2, h3, if_true, if_false]
    congr 1
    · omega
    · congr 1
      omega
  unfold picks
  rw [hb]
  by_cases ha : a ≤ n
  · have e : min a ns.length = a := by omega
    rw [e]
    exact range_pick hc ha hn
  · simp only
    rw [range_none (by omega) (by omega)]
    have e : n - a + c - 1 = c - 1 := by omega
    rw [e, Nat.div_eq_of_lt (by omega)]
    rfl
theorem picks_from {ns : List Int} {a c : Nat} (hc : 0 < c) :
    picks ns (some (a : Int)) none (c : Int) = (List.range ((ns.length - a + c - 1) / c)).map fun i => ns.getD (a + c * i) 0 := by
  have hb : sliceBounds (some (a : Int)) none (some (c : Int)) ns.length = (((min a ns.length : Nat) : Int), (ns.length : Int), (c : Int)) := by
    have h1 : (c : Int) > 0 := by omega
    have h2 : ¬ (a : Int) < 0 := by omega
    simp only [sliceBounds, Option.getD_some, h1, h2, if_true, if_false]
    congr 1
    omega
  unfold picks
  rw [hb]
  by_cases ha : a ≤ ns.length
  · have e : min a ns.length = a := by omega
    rw [e]
    exact range_pick hc ha (Nat.le_refl _)
  · simp only
    rw [range_none (by omega) (by omega)]
    have e : ns.length - a + c - 1 = c - 1 := by omega
    rw [e, Nat.div_eq_of_lt (by omega)]
    rfl
/-! ### reading cells -/
def evens (cs : List Int) (n : Nat) : List Int := (List.range n).map fun i => cs.getD (2 * i) 0
def odds (cs : List Int) (n : Nat) : List Int := (List.range n).map fun i => cs.getD (2 * i + 1) 0
theorem evens_len (cs : List Int) (n : Nat) : (evens cs n).length = n := by unfold evens; rw [List.length_map, List.length_range]
theorem odds_len (cs : List Int) (n : Nat) : (odds cs n).length = n := by unfold odds; rw [List.length_map, List.length_range]
theorem evens_get {cs : List Int} {n i : Nat} (h : i < n) : (evens cs n).getD i 0 = cs.getD (2 * i) 0 := by
  unfold evens
  rw [List.getD_eq_getElem?_getD, List.getElem?_map, List.getElem?_range h]
  rfl
theorem odds_get {cs : List Int} {n i : Nat} (h : i < n) : (odds cs n).getD i 0 = cs.getD (2 * i + 1) 0 := by
  unfold odds
  rw [List.getD_eq_getElem?_getD, List.getElem?_map, List.getElem?_range h]
  rfl
theorem getD_take {cs : List Int} {n i : Nat} (h : i < n) : (cs.take n).getD i 0 = cs.getD i 0 := by
  rw [List.getD_eq_getElem?_getD, List.getD_eq_getElem?_getD, List.getElem?_take_of_lt h]
theorem whole_even {cs : List Int} {n : Nat} (h : 2 * n ≤ cs.length) : picks (cs.take (2 * n)) (some 0) none 2 = evens cs n := by
  have e := picks_from (ns := cs.take (2 * n)) (a := 0) (c := 2) (by decide)
  have hl : (cs.take (2 * n)).length = 2 * n := by rw [List.length_take]; omega
  rw [hl] at e
  have e2 : (2 * n - 0 + 2 - 1) / 2 = n := by omega
  rw [e2] at e
  refine e.trans ?_
  unfold evens
  refine List.map_congr_left fun i hi => ?_
  rw [List.mem_range] at hi
  rw [Nat.zero_add, getD_take (by omega)]
theorem whole_odd {cs : List Int} {n : Nat} (h : 2 * n ≤ cs.length) : picks (cs.take (2 * n)) (some 1) none 2 = odds cs n := by
  have e := picks_from (ns := cs.take (2 * n)) (a := 1) (c := 2) (by decide)
  have hl : (cs.take (2 * n)).length = 2 * n := by rw [List.length_take]; omega
  rw [hl] at e
  have e2 : (2 * n - 1 + 2 - 1) / 2 = n := by omega
  rw [e2] at e
  refine e.trans ?_
  unfold odds
  refine List.map_congr_left fun i hi => ?_
  rw [List.mem_range] at hi
  rw [getD_take (by omega), Nat.add_comm]
theorem part_even {cs : List Int} {n : Nat} (h : 2 * n ≤ cs.length) : picks cs (some 0) (some ((2 * n : Nat) : Int)) 2 = evens cs n := by
  have e := picks_to (ns := cs) (a := 0) (c := 2) (n := 2 * n) (by decide) h
  have e2 : (2 * n - 0 + 2 - 1) / 2 = n := by omega
  rw [e2] at e
  refine e.trans ?_
  unfold evens
  refine List.map_congr_left fun i hi => ?_
  rw [Nat.zero_add]
theorem part_odd {cs : List Int} {n : Nat} (h : 2 * n ≤ cs.length) : picks cs (some 1) (some ((2 * n : Nat) : Int)) 2 = odds cs n := by
  have e := picks_to (ns := cs) (a := 1) (c := 2) (n := 2 * n) (by decide) h
  have e2 : (2 * n - 1 + 2 - 1) / 2 = n := by omega
  rw [e2] at e
  refine e.trans ?_
  unfold odds
  refine List.map_congr_left fun i hi => ?_
  rw [Nat.add_comm]
def byteZ (ns : List Int) : Int := ns.foldl (fun v b => 2 * v + b) 0
theorem byteZ_more {ns : List Int} {i : Nat} {b : Int} (h : ns[i]? = some b) : byteZ (ns.take (i + 1)) = 2 * byteZ (ns.take i) + b := by
  unfold byteZ
  rw [List.take_succ, h, List.foldl_append]
  rfl
theorem byteZ_bits8 {v : Nat} (hv : v < 256) : byteZ (bits8 v) = (v : Int) := by
  unfold byteZ bits8
  simp only [List.foldl_cons, List.foldl_nil]
  omega
/-- bytes of eight bits each -/
def bytesZ (ns : List Int) : List Int := (List.range (ns.length / 8)).map fun k => byteZ ((ns.drop (8 * k)).take 8)
def fmF (cl : List Int) : List Int := ((List.range cl.length).filter fun i => !decide (cl.getD i 0 = 1)).map fun i : Nat => (i : Int)
def lastB (before : Int) (bs : List Int) (i : Nat) : Int := if i = 0 then before else bs.getD (i - 1) 0
def mfmT (before : Int) (cl bs : List Int) (i : Nat) : Bool := !decide (cl.getD i 0 = clk (lastB before bs i) (bs.getD i 0))
def mfmFa (before : Int) (cl bs : List Int) : List Int := ((List.range cl.length).filter (mfmT before cl bs)).map fun i : Nat => (i : Int)
def spReadFm : Sp := fun vs H Q _ => ∃ (a : Addr) (cs : List Int), vs = [.ref a] ∧ H a = some (IL cs) ∧ cs.length ≤ 1000000 ∧
  ∀ t b f H', Same H H' → H t = none → H' t = some (.tup [.ref b, .ref f]) → H' b = some (IL (bytesZ (odds cs (8 * (cs.length / 16))))) → H' f = some (IL (fmF (evens cs (8 * (cs.length / 16))))) → Q (.ref t) H'
def spReadMfm : Sp := fun vs H Q _ => ∃ (a : Addr) (cs : List Int) (before : Int), vs = [.ref a, .int before] ∧ H a = some (IL cs) ∧ cs.length ≤ 1000000 ∧
  ∀ t b f H', Same H H' → H t = none → H' t = some (.tup [.ref b, .ref f]) → H' b = some (IL (bytesZ (odds cs (8 * (cs.length / 16))))) → H' f = some (IL (mfmFa before (evens cs (8 * (cs.length / 16))) (odds cs (8 * (cs.length / 16))))) → Q (.ref t) H'
def spWhole : Sp := fun vs H Q _ => ∃ (a : Addr) (cs : List Int) (c : Nat), vs = [.ref a, .int (c : Int)] ∧ H a = some (IL cs) ∧ cs.length ≤ 1000000 ∧ 0 < c ∧ c < 1000 ∧ ∀ D H', Same H H' → H D = none → H' D = some (IL (cs.take (cs.length / c * c))) → Q (.ref D) H'
def spBytesOf : Sp := fun vs H Q _ => ∃ (a : Addr) (cs : List Int), vs = [.ref a] ∧ H a = some (IL cs) ∧ cs.length ≤ 1000000 ∧ cs.length % 8 = 0 ∧ ∀ D H', Same H H' → H D = none → H' D = some (IL (bytesZ cs)) → Q (.ref D) H'
def spBitsByte : Sp := fun vs H Q _ => ∃ (a : Addr) (ns : List Int), vs = [.ref a] ∧ H a = some (IL ns) ∧ Q (.int (byteZ ns)) H
def spMfmClock : Sp := fun vs H Q _ => ∃ (l b : Int), vs = [.int l, .int b] ∧ Q (.int (clk l b)) H
/-- [i for i, x in enumerate(xs) if ..] -/
theorem lc_enumF {K : PySem.W.Frag} {a : Addr} {xs : List Int} {kp : Nat → Bool} {i1 i2 : Nat} {tt : TT} {te : TE} {vs : List Nat} {σ : L2.St} {H1 : Hp} {D : Addr} {Qd : Hp → Prop} (hn : xs.length ≤ 16777215) (hx : H1 a = some (IL xs)) (hD : H1 D = none)
    (hw : ∀ v w, wipe (((wipe σ vs).set i1 v).set i2 w) vs = wipe σ vs)
    (htt : ∀ (i : Nat) x H3 (Q' : Bool → Hp → Prop), xs[i]? = some x → Same H1 H3 → (∀ H4, Same H3 H4 → Q' (kp i) H4) → tt (((wipe σ vs).set i1 (some (.int (i : Int)))).set i2 (some (.int x))) H3 Q')
    (hte : ∀ (i : Nat) x H3 (Q' : VK), xs[i]? = some x → Same H1 H3 → (∀ H4, Same H3 H4 → Q' (.int (i : Int)) H4) → te (((wipe σ vs).set i1 (some (.int (i : Int)))).set i2 (some (.int x))) H3 Q')
    (hd : ∀ H', Same H1 H' → H' D = some (IL (((List.range xs.length).filter kp).map fun i : Nat => (i : Int))) → Qd H') :
    LcW (Ite K a) (gTup K 2 (gCons (gName i1) (gCons (gName i2) gNil))) tt te vs σ H1 D Qd := by
  have wk := walk_enum (K := K) (a := a) (xs := xs.map V.int)
  rw [List.length_map] at wk
  refine lc_it wk (fun i H' => Same H1 H' ∧ H' D = some (IL (((List.range i).filter kp).map fun i : Nat => (i : Int)))) ⟨same_new hD _, upd_same⟩ (fun i H _ h => .of (h.1 _ _ hx)) ?_ ?_
  · intro i x H H' hi h hy
    obtain ⟨h1, h2⟩ := h
    obtain ⟨t, x, y, rfl, nt, rfl, ex, ey⟩ := hy
    cases ex
    obtain ⟨y, rfl, fy⟩ := ints_at ey
    have s1 := h1.trans (same_new nt (.tup [V.int (i : Int), V.int y]))
    refine ⟨t, _, rfl, .of upd_same, rfl, V.int (i : Int), [V.int y], rfl, V.int y, [], rfl, rfl, hw _ _, ?_⟩
    refine htt i y _ _ fy s1 fun H4 s4 => ?_
    have e4 : H4 D = some (IL (((List.range i).filter kp).map fun i : Nat => (i : Int))) := s4 _ _ (same_new nt _ _ _ h2)
    have hle := List.length_filter_le kp (List.range i)
    rw [List.length_range] at hle
    by_cases c : kp i = true
    · rw [if_pos c]
      refine hte i y _ _ fy (s1.trans s4) fun H5 s5 => ?_
      refine ⟨_, s5 _ _ e4, by rw [List.length_map, List.length_map]; exact line_lt (by omega), fun b o hb => ?_, ?_⟩
      · rw [upd_ne (ne_of_none hb hD)]
        exact s5 _ _ (s4 _ _ (s1 _ _ hb))
      · rw [upd_same, List.range_succ, List.filter_append, List.map_append]
        unfold IL
        rw [List.map_append]
        simp [c]
    · rw [if_neg c]
      refine ⟨s1.trans s4, ?_⟩
      rw [e4, List.range_succ, List.filter_append]
      simp [c]
  · intro H h
    exact hd H h.1 h.2
/-- [e for k in range(lo, hi, c)], ints by the place alone -/
theorem lc_rangeCI {lo c : Int} {n : Nat} {f : Nat → Int} {j : Nat} {te : TE} {vs : List Nat} {σ : L2.St} {H1 : Hp} {D : Addr} {Qd : Hp → Prop} (hn : n ≤ 16777215) (hD : H1 D = none) (hw : ∀ v, wipe ((wipe σ vs).set j v) vs = wipe σ vs)
    (hte : ∀ i H3 (Q' : VK), i < n → Same H1 H3 → (∀ H4, Same H3 H4 → Q' (.int (f i)) H4) → te ((wipe σ vs).set j (some (.int (lo + (i : Nat) * c)))) H3 Q')
    (hd : ∀ H', Same H1 H' → H' D = some (IL ((List.range n).map f)) → Qd H') : LcW (Itc lo c n) (gName j) tYes te vs σ H1 D Qd := by
  refine lc_it (walk_rangeC (lo := lo) (c := c) (n := n)) (fun i H' => Same H1 H' ∧ H' D = some (IL ((List.range i).map f))) ⟨same_new hD _, upd_same⟩ (fun i H _ h => trivial) ?_ ?_
  · intro i x H H' hi h hy
    obtain ⟨h1, h2⟩ := h
    obtain ⟨rfl, rfl⟩ := hy
    refine ⟨hw _, ?_⟩
    simp only [tYes, if_true]
    refine hte i _ _ hi h1 fun H4 hs => ?_
    have e := hs D _ h2
    refine ⟨_, e, by rw [List.length_map, List.length_map, List.length_range]; exact line_lt (by omega), fun b o hb => ?_, ?_⟩
    · rw [upd_ne (ne_of_none hb hD)]
      exact hs _ _ (h1 b o hb)
    · rw [upd_same, List.range_succ, List.map_append]
      unfold IL
      rw [List.map_append]
      rfl
  · intro H h
    exact hd H h.1 h.2
/-- range(0, a length, c) -/
theorem rgC_len {len c : Nat} (hc : 0 < c) (hc2 : c < 1073741824) (hl : len ≤ 16777216) : RgC 0 (len : Int) (c : Int) ((len + c - 1) / c) := by
  have e : Builtin.Range.rangeSize 0 (len : Int) (c : Int) = (((len + c - 1) / c : Nat) : Int) := by
    rw [PyProof.Rows.rangeSize_pos (by omega) (by omega), Int.natCast_ediv]
    congr 1
    omega
  have hq : (len + c - 1) / c ≤ len := by
    cases len with
    | zero => rw [Nat.div_eq_of_lt (by omega)]; exact Nat.le_refl _
    | succ n =>
      refine Nat.div_le_of_le_mul ?_
      have : c * (n + 1) = c * n + c := Nat.mul_succ c n
      have h2 : n ≤ c * n := Nat.le_mul_of_pos_left n hc
      omega
  refine ⟨by omega, by omega, ?_, e⟩
  unfold Builtin.Range.small
  rw [e]
  have h3 : (((len + c - 1) / c : Nat) : Int) * (c : Int) ≤ (len : Int) + (c : Int) - 1 := by
    have := Nat.div_mul_le_self (len + c - 1) c
    rw [← Int.natCast_mul]
    omega
  generalize (len + c - 1) / c = n at *
  simp only [Builtin.Range.rangeFitsLong, Bool.and_eq_true, Bool.or_eq_true, decide_eq_true_eq, beq_iff_eq]
  rw [if_pos (by omega), Bool.and_eq_true, decide_eq_true_eq, decide_eq_true_eq]
  exact ⟨by omega, .inr (by omega)⟩
/-! for loops, by the name ForW -/
theorem forR {lo : Int} {n : Nat} {g : TG} {tb : TS} {D : Ends} {σ : L2.St} {H : Hp} (Pv : Nat → L2.St → Hp → Prop) (h0 : Pv 0 σ H)
    (hs : ∀ i σ H, i < n → Pv i σ H → g (.int (lo + i)) σ H fun σ2 H2 => tb { D with nx := Pv (i + 1), ct := Pv (i + 1), bk := D.nx } σ2 H2) (hd : ∀ σ H, Pv n σ H → D.nx σ H) : ForW (Itr lo n) g tb D σ H := for_range Pv h0 hs hd
theorem forL {K : PySem.W.Frag} {a : Addr} {xs : List V} {g : TG} {tb : TS} {D : Ends} {σ : L2.St} {H : Hp} (Pv : Nat → L2.St → Hp → Prop) (h0 : Pv 0 σ H) (hl : ∀ i σ H, i ≤ xs.length → Pv i σ H → SqL K H a xs)
    (hs : ∀ i x σ H, xs[i]? = some x → Pv i σ H → g x σ H fun σ2 H2 => tb { D with nx := Pv (i + 1), ct := Pv (i + 1), bk := D.nx } σ2 H2) (hd : ∀ σ H, Pv xs.length σ H → D.nx σ H) : ForW (Itl K a) g tb D σ H := for_list Pv h0 hl hs hd
end Dw

namespace Dw
open PySem PySem.Spec PyProof.Rows L2
/-- the place of a whole number in a tuple of whole numbers, where it first stands -/
def rTupIxI (K : PySem.W.Frag) : V → List V → Hp → VK → Prop := fun x xs H Q => ∃ (p : Addr) (ns : List Int) (k : Int) (j : Nat), x = .ref p ∧ xs = [.int k] ∧ SqT K H p (ns.map V.int) ∧ ns[j]? = some k ∧ (∀ m, m < j → ns[m]? ≠ some k) ∧ Q (.int (j : Int)) H
theorem mt_tupIndexI {X : Cx} : MtR X "tuple.index" (rTupIxI X.K) := by
  intro pins s σ H x args v us Q inv rx rargs want
  obtain ⟨p, ns, k, j, rfl, rfl, isT, at_j, before, goal⟩ := want
  cases rx
  obtain ⟨u, rfl, t, rfl⟩ := rargs.one
  obtain ⟨its, rel, ⟨⟨cl, dd, dat, sl⟩, found, hcl, n, hdat⟩, small⟩ := inv.tuple isT
  simp only at hcl hdat
  subst hcl hdat
  have are := ints_of_vals rel
  have size : its.toArray.size = ns.length := by rw [List.size_toArray, ← rel.length, List.length_map]
  have jlt := (List.getElem?_eq_some_iff.mp at_j).1
  have item : ∀ (m : Nat) (hm : m < its.toArray.size), ∃ tm, its.toArray[m] = Value.int (ns[m]'(by omega)) tm := by
    intro m hm
    obtain ⟨tm, e⟩ := are.get m _ (List.getElem?_eq_getElem (show m < ns.length by omega))
    exact ⟨tm, by simpa using (List.getElem?_eq_some_iff.mp e).2⟩
  refine call_meets PySem.F.slot_tuple_index ⟨_, found, rfl⟩ PySem.F.entry_tuple_index (PySem.F.args_tuple_index_2 _ _)
    (TI.tuple_indexAt p its.toArray n dd sl (.int k t) (eqk k) j (by omega) ?_ ?_) ⟨found, fun y hy => (eqk_gives are y (by simpa using hy)).at _ _, ⟨.int (j : Int), H, inv.tok _, ⟨_, rfl⟩, goal⟩⟩
  · obtain ⟨tm, e⟩ := item j (by omega)
    rw [e]
    have : ns[j] = k := (List.getElem?_eq_some_iff.mp at_j).2
    rw [this]
    exact beq_self_eq_true k
  · intro m hm hmj
    obtain ⟨tm, e⟩ := item m hm
    rw [e]
    refine beq_eq_false_iff_ne.mpr fun same => before m hmj ?_
    rw [List.getElem?_eq_getElem (show m < ns.length by omega), same]
/-! ### the group code -/
def GC : List Int := [9, 10, 11, 13, 14, 15, 18, 19, 21, 22, 23, 25, 26, 27, 29, 30]
def codeZ (n : Nat) : List Int := (bits8 (GC.getD n 0).toNat).drop 3
def gcrZ (ns : List Int) : List Int := (ns.map fun n => codeZ (n.toNat / 16) ++ codeZ (n.toNat % 16)).flatten
theorem codeZ_len {n : Nat} (h : n < 16) : (codeZ n).length = 5 := by
  unfold codeZ
  rw [List.length_drop, bits8_len]
theorem gcrZ_more {ns : List Int} {i v : Nat} (h : ns[i]? = some (v : Int)) : gcrZ (ns.take (i + 1)) = gcrZ (ns.take i) ++ codeZ (v / 16) ++ codeZ (v % 16) := by
  unfold gcrZ
  rw [take_more h, List.map_append, List.flatten_append]
  simp
theorem gcrZ_len : ∀ ns : List Int, Bytes ns → (gcrZ ns).length = 10 * ns.length
  | [], _ => rfl
  | n :: r, h => by
    have ih := gcrZ_len r fun x hx => h x (List.mem_cons_of_mem _ hx)
    have hn := h n List.mem_cons_self
    unfold gcrZ at ih ⊢
    rw [List.map_cons, List.flatten_cons, List.length_append, List.length_append, ih, codeZ_len (by omega), codeZ_len (by omega), List.length_cons]
    omega
def idxG (c : Int) : Int := if c ∈ GC then ((GC.idxOf c : Nat) : Int) else 0
def grp (cs : List Int) (i : Nat) : List Int := (cs.drop (5 * i)).take 5
def numG (cs : List Int) (i : Nat) : Int := idxG (byteZ (grp cs i))
def badG (cs : List Int) (i : Nat) : Bool := !decide (byteZ (grp cs i) ∈ GC)
def numsG (cs : List Int) (n : Nat) : List Int := (List.range n).map (numG cs)
def faultsG (cs : List Int) (n : Nat) : List Int := ((List.range n).filter (badG cs)).map fun i : Nat => (i : Int)
def valsG (cs : List Int) (n : Nat) : List Int := (List.range n).map fun k => 16 * numG cs (2 * k) + numG cs (2 * k + 1)
theorem faultsG_more {cs : List Int} {i : Nat} : faultsG cs (i + 1) = faultsG cs i ++ (if badG cs i = true then [(i : Int)] else []) := by
  unfold faultsG
  rw [List.range_succ, List.filter_append, List.map_append]
  cases h : badG cs i with
  | true => rw [List.filter_cons_of_pos h, if_pos rfl]; rfl
  | false => rw [List.filter_cons_of_neg (by rw [h]; decide), if_neg (by decide)]; rfl
theorem faultsG_len (cs : List Int) (n : Nat) : (faultsG cs n).length ≤ n := by
  unfold faultsG
  rw [List.length_map]
  have := List.length_filter_le (badG cs) (List.range n)
  rw [List.length_range] at this
  exact this
theorem numsG_more {cs : List Int} {i : Nat} : numsG cs (i + 1) = numsG cs i ++ [numG cs i] := by
  unfold numsG
  rw [List.range_succ, List.map_append]
  rfl
theorem numsG_len (cs : List Int) (n : Nat) : (numsG cs n).length = n := by
  unfold numsG
  rw [List.length_map, List.length_range]
theorem numsG_get {cs : List Int} {n i : Nat} (h : i < n) : (numsG cs n).getD i 0 = numG cs i := by
  unfold numsG
  rw [List.getD_eq_getElem?_getD, List.getElem?_map, List.getElem?_range h]
  rfl
theorem all_even {cs : List Int} {n : Nat} (h : cs.length = 2 * n) : picks cs (some 0) none 2 = evens cs n := by
  have e := whole_even (cs := cs) (n := n) (by omega)
  rw [List.take_of_length_le (by omega)] at e
  exact e
theorem all_odd {cs : List Int} {n : Nat} (h : cs.length = 2 * n) : picks cs (some 1) none 2 = odds cs n := by
  have e := whole_odd (cs := cs) (n := n) (by omega)
  rw [List.take_of_length_le (by omega)] at e
  exact e
theorem zip_vals {cs : List Int} {n : Nat} : List.zipWith (fun h l => 16 * h + l) (evens (numsG cs (2 * n)) n) (odds (numsG cs (2 * n)) n) = valsG cs n := by
  unfold evens odds valsG
  rw [List.zipWith_map, List.zipWith_self]
  refine List.map_congr_left fun i hi => ?_
  rw [List.mem_range] at hi
  rw [numsG_get (by omega), numsG_get (by omega)]
theorem idx_first {c : Int} {ns : List Int} (h : c ∈ ns) : ns[ns.idxOf c]? = some c ∧ ∀ m, m < ns.idxOf c → ns[m]? ≠ some c := by
  have hl := List.idxOf_lt_length_of_mem h
  refine ⟨by rw [List.getElem?_eq_getElem hl, List.getElem_idxOf], fun m hm e => ?_⟩
  have hm2 : m < ns.length := by omega
  rw [List.getElem?_eq_getElem hm2] at e
  have := List.not_of_lt_findIdx (p := fun x => x == c) (xs := ns) (i := m) (by exact hm)
  rw [Option.some.inj e] at this
  simp at this
theorem inV_int {c : Int} : ∀ ns : List Int, inV (.int c) (ns.map V.int) = decide (c ∈ ns)
  | [] => rfl
  | y :: r => by
    have ih := inV_int (c := c) r
    unfold inV at ih ⊢
    rw [List.map_cons, List.any_cons, ih]
    have e : eqV (.int y) (.int c) = decide (c = y) := by
      show (y == c) = _
      by_cases h : c = y
      · subst h; simp
      · rw [decide_eq_false h]
        have : ¬ y = c := fun q => h q.symm
        simp [this]
    rw [e, ← Bool.decide_or, decide_eq_decide, List.mem_cons]
theorem flat_int : ∀ l : List Int, (l.map V.int).all flatV = true
  | [] => rfl
  | y :: r => by
    rw [List.map_cons, List.all_cons, flat_int r]
    rfl
def spGcrCode : Sp := fun vs H Q _ => ∃ n : Nat, vs = [.int n] ∧ n < 16 ∧ ∀ D H', Same H H' → H D = none → H' D = some (IL (codeZ n)) → Q (.ref D) H'
def spGcrCells : Sp := fun vs H Q _ => ∃ (a : Addr) (ns : List Int), vs = [.ref a] ∧ H a = some (IL ns) ∧ Bytes ns ∧ ns.length ≤ 100000 ∧ ∀ D H', Same H H' → H D = none → H' D = some (IL (gcrZ ns)) → Q (.ref D) H'
def spReadGcr : Sp := fun vs H Q _ => ∃ (a : Addr) (cs : List Int), vs = [.ref a] ∧ H a = some (IL cs) ∧ cs.length ≤ 1000000 ∧
  ∀ t b f H', Same H H' → H t = none → H' t = some (.tup [.ref b, .ref f]) → H' b = some (IL (valsG cs (cs.length / 10))) → H' f = some (IL (faultsG cs (2 * (cs.length / 10)))) → Q (.ref t) H'
theorem room65 {k : Nat} {A : Around} (hr : Room k A) : A.units + 65 < cLine := by
  have := hr.un
  omega
theorem RowsAt.isL {H : Hp} {p : Addr} {rs : List (List Int)} (h : RowsAt H p rs) : Dw.isL (H p) = true := by
  obtain ⟨as, e, _⟩ := h
  rw [e]
  rfl
end Dw

namespace Dw
open PySem PySem.Spec PyProof.Rows L2
/-! ### no long runs -/
def okR (v : Int) (k : Nat) : Nat → List Int → Bool
  | n, [] => decide (n < k)
  | n, b :: r => decide (n < k) && okR v k (if b = v then n + 1 else 0) r
def endR (v : Int) : Nat → List Int → Nat
  | n, [] => n
  | n, b :: r => endR v (if b = v then n + 1 else 0) r
theorem okR_append (v : Int) (k : Nat) : ∀ (xs ys : List Int) (n : Nat), okR v k n xs = true → okR v k (endR v n xs) ys = true → okR v k n (xs ++ ys) = true
  | [], _, _, _, h => h
  | x :: xs, ys, n, h1, h2 => by
    unfold okR at h1
    rw [Bool.and_eq_true] at h1
    show (decide (n < k) && okR v k (if x = v then n + 1 else 0) (xs ++ ys)) = true
    rw [Bool.and_eq_true]
    exact ⟨h1.1, okR_append v k xs ys _ h1.2 h2⟩
theorem endR_append (v : Int) : ∀ (xs ys : List Int) (n : Nat), endR v n (xs ++ ys) = endR v (endR v n xs) ys
  | [], _, _ => rfl
  | x :: xs, ys, n => endR_append v xs ys _
theorem okR_lt {v : Int} {k n : Nat} : ∀ {xs : List Int}, okR v k n xs = true → n < k
  | [], h => of_decide_eq_true h
  | x :: xs, h => by
    unfold okR at h
    rw [Bool.and_eq_true] at h
    exact of_decide_eq_true h.1
theorem okR_rep {v : Int} {k : Nat} : ∀ (m n : Nat) {ys : List Int}, okR v k n (List.replicate m v ++ ys) = true → n + m < k
  | 0, n, ys, h => okR_lt h
  | m + 1, n, ys, h => by
    rw [List.replicate_succ, List.cons_append] at h
    unfold okR at h
    rw [Bool.and_eq_true, if_pos rfl] at h
    have := okR_rep m (n + 1) h.2
    omega
theorem okR_drop {v : Int} {k : Nat} : ∀ (i n : Nat) {xs : List Int}, okR v k n xs = true → ∃ n', okR v k n' (xs.drop i) = true
  | 0, n, xs, h => ⟨n, h⟩
  | i + 1, n, [], h => ⟨n, h⟩
  | i + 1, n, x :: xs, h => by
    unfold okR at h
    rw [Bool.and_eq_true] at h
    exact okR_drop i _ h.2
theorem no_run {v : Int} {k n : Nat} {xs : List Int} (h : okR v k n xs = true) (i : Nat) : (xs.drop i).take k ≠ List.replicate k v := by
  intro e
  obtain ⟨n', h2⟩ := okR_drop i n h
  rw [← List.take_append_drop k (xs.drop i), e] at h2
  have := okR_rep k n' h2
  omega
/-! ### texts of bits -/
def strB (b : Int) : Str := Str.ofString (toString b)
def txtB (cs : List Int) : Str := Txt.join (Str.ofString "") (cs.map strB)
theorem joinL_nil : ∀ parts : List (List Nat), TL.joinL [] parts = parts.flatten
  | [] => rfl
  | [p] => by
    show p = p ++ []
    rw [List.append_nil]
  | p :: q :: r => by
    show p ++ ([] ++ TL.joinL [] (q :: r)) = _
    rw [List.nil_append, joinL_nil (q :: r)]
    rfl
theorem tl_strB {b : Int} (h : b = 0 ∨ b = 1) : TL.tl (strB b) = [(48 + b).toNat] := by
  rcases h with rfl | rfl <;> decide +kernel
theorem tl_txtB {cs : List Int} (h : ∀ b ∈ cs, b = 0 ∨ b = 1) : TL.tl (txtB cs) = cs.map fun b => (48 + b).toNat := by
  have e : TL.tl (txtB cs) = TL.joinL (TL.tl (Str.ofString "")) ((cs.map strB).map TL.tl) := by rw [show txtB cs = Str.join (Str.ofString "") (cs.map strB) from TL.join_eq _ _]; exact TL.tl_join _ _
  have e0 : TL.tl (Str.ofString "") = [] := rfl
  rw [e, e0, joinL_nil, List.map_map]
  induction cs with
  | nil => rfl
  | cons b r ih =>
    rw [List.map_cons, List.flatten_cons, ih (fun x hx => h x (List.mem_cons_of_mem _ hx)) (by rw [show txtB r = Str.join (Str.ofString "") (r.map strB) from TL.join_eq _ _]; exact TL.tl_join _ _), List.map_cons]
    show TL.tl (strB b) ++ _ = _
    rw [tl_strB (h b List.mem_cons_self)]
    rfl
theorem codes_inj {v : Int} (hv : v = 0 ∨ v = 1) : ∀ {xs : List Int} {k : Nat}, (∀ b ∈ xs, b = 0 ∨ b = 1) → xs.map (fun b => (48 + b).toNat) = List.replicate k (48 + v).toNat → xs = List.replicate k v
  | [], 0, _, _ => rfl
  | [], k + 1, _, h => by rw [List.replicate_succ] at h; cases h
  | x :: xs, 0, _, h => by cases h
  | x :: xs, k + 1, hb, h => by
    rw [List.map_cons, List.replicate_succ] at h
    have h1 := (List.cons.inj h).1
    have h2 := codes_inj hv (fun b hb' => hb b (List.mem_cons_of_mem _ hb')) (List.cons.inj h).2
    have hx := hb x List.mem_cons_self
    have : x = v := by omega
    rw [h2, this, List.replicate_succ]
theorem not_in {v : Int} (hv : v = 0 ∨ v = 1) {k : Nat} {cs : List Int} {sub : Str} (hb : ∀ b ∈ cs, b = 0 ∨ b = 1) (hs : TL.tl sub = List.replicate k (48 + v).toNat) (h : okR v k 0 cs = true) :
    (!(Builtin.Str.occurrences (txtB cs) sub 0 (txtB cs).length 1).isEmpty) = false := by
  cases c : (!(Builtin.Str.occurrences (txtB cs) sub 0 (txtB cs).length 1).isEmpty) with
  | false => rfl
  | true =>
    obtain ⟨i, hi, hsub⟩ := (StrLaws.found_iff _ _).mp c
    rw [StrLaws.subAt_eq] at hsub
    have e := eq_of_beq hsub
    have e1 : (txtB cs).cps.toList = cs.map fun b => (48 + b).toNat := tl_txtB hb
    have e2 : sub.cps.toList = List.replicate k (48 + v).toNat := hs
    have e3 : sub.length = k := by
      have : sub.cps.toList.length = k := by rw [e2, List.length_replicate]
      exact this
    rw [e1, e2, e3, ← List.map_drop, ← List.map_take] at e
    have := codes_inj hv (fun b hb' => hb b (List.mem_of_mem_drop (List.mem_of_mem_take hb'))) e
    exact absurd this (no_run h i)
theorem txtB_len {cs : List Int} (h : ∀ b ∈ cs, b = 0 ∨ b = 1) : (txtB cs).length = cs.length := by
  have e := congrArg List.length (tl_txtB h)
  rw [List.length_map] at e
  exact e
/-! ### the group code: its runs, and back -/
theorem runs0 : ∀ a, a < 16 → ∀ n, n < 2 → okR 0 3 n (codeZ a) = true ∧ endR 0 n (codeZ a) < 2 := by decide +kernel
theorem runs1 : ∀ a, a < 16 → ∀ n, n < 5 → okR 1 9 n (codeZ a) = true ∧ endR 1 n (codeZ a) < 5 := by decide +kernel
theorem gcr_runs {v : Int} {k m : Nat} (hm : m ≤ k) (h : ∀ a, a < 16 → ∀ n, n < m → okR v k n (codeZ a) = true ∧ endR v n (codeZ a) < m) : ∀ (ns : List Int) (n : Nat), Bytes ns → n < m → okR v k n (gcrZ ns) = true
  | [], n, _, hn => by
    show decide (n < k) = true
    exact decide_eq_true (by omega)
  | x :: r, n, hb, hn => by
    have hx := hb x List.mem_cons_self
    have e : gcrZ (x :: r) = codeZ (x.toNat / 16) ++ (codeZ (x.toNat % 16) ++ gcrZ r) := by
      unfold gcrZ
      rw [List.map_cons, List.flatten_cons, List.append_assoc]
    obtain ⟨a1, a2⟩ := h (x.toNat / 16) (by omega) n hn
    obtain ⟨b1, b2⟩ := h (x.toNat % 16) (by omega) _ a2
    rw [e]
    exact okR_append v k _ _ n a1 (okR_append v k _ _ _ b1 (gcr_runs hm h r _ (fun y hy => hb y (List.mem_cons_of_mem _ hy)) b2))
theorem back5 : ∀ a, a < 16 → byteZ (codeZ a) ∈ GC ∧ idxG (byteZ (codeZ a)) = (a : Int) := by decide +kernel
theorem grp_zero {a : Nat} (ha : a < 16) (L : List Int) : grp (codeZ a ++ L) 0 = codeZ a := by
  unfold grp
  rw [Nat.mul_zero, List.drop_zero]
  exact List.take_left' (codeZ_len ha)
theorem grp_succ {a : Nat} (ha : a < 16) (L : List Int) (i : Nat) : grp (codeZ a ++ L) (i + 1) = grp L i := by
  unfold grp
  have e : 5 * (i + 1) = (codeZ a).length + 5 * i := by rw [codeZ_len ha]; omega
  rw [e, List.drop_append, List.drop_eq_nil_of_le (by omega), List.nil_append, Nat.add_sub_cancel_left]
theorem gcr_groups : ∀ (ns : List Int) (rest : List Int), Bytes ns → ∀ k, k < ns.length → ∃ v : Nat, ns[k]? = some (v : Int) ∧ v < 256 ∧ grp (gcrZ ns ++ rest) (2 * k) = codeZ (v / 16) ∧ grp (gcrZ ns ++ rest) (2 * k + 1) = codeZ (v % 16)
  | [], _, _, k, h => absurd h (Nat.not_lt_zero _)
  | x :: r, rest, hb, k, h => by
    have hx := hb x List.mem_cons_self
    have e : gcrZ (x :: r) ++ rest = codeZ (x.toNat / 16) ++ (codeZ (x.toNat % 16) ++ (gcrZ r ++ rest)) := by
      unfold gcrZ
      rw [List.map_cons, List.flatten_cons]
      simp only [List.append_assoc]
    have h1 : x.toNat / 16 < 16 := by omega
    have h2 : x.toNat % 16 < 16 := by omega
    rw [e]
    cases k with
    | zero =>
      refine ⟨x.toNat, by show some x = _; congr 1; omega, by omega, grp_zero h1 _, ?_⟩
      rw [Nat.mul_zero, grp_succ h1, grp_zero h2]
    | succ k =>
      obtain ⟨v, q1, q2, q3, q4⟩ := gcr_groups r rest (fun y hy => hb y (List.mem_cons_of_mem _ hy)) k (by simpa using h)
      have e1 : 2 * (k + 1) = (2 * k + 1) + 1 := by omega
      refine ⟨v, q1, q2, ?_, ?_⟩
      · rw [e1, grp_succ h1, grp_succ h2]
        exact q3
      · rw [e1, grp_succ h1, grp_succ h2]
        exact q4
theorem gcr_vals {ns rest : List Int} (hb : Bytes ns) : valsG (gcrZ ns ++ rest) ns.length = ns := by
  unfold valsG
  apply List.ext_getElem
  · rw [List.length_map, List.length_range]
  · intro k h1 h2
    rw [List.getElem_map, List.getElem_range]
    obtain ⟨v, q1, q2, q3, q4⟩ := gcr_groups ns rest hb k h2
    unfold numG
    rw [q3, q4, (back5 _ (by omega)).2, (back5 _ (by omega)).2]
    rw [List.getElem?_eq_getElem h2] at q1
    rw [Option.some.inj q1]
    omega
theorem gcr_faults {ns rest : List Int} (hb : Bytes ns) : faultsG (gcrZ ns ++ rest) (2 * ns.length) = [] := by
  unfold faultsG
  have : (List.range (2 * ns.length)).filter (badG (gcrZ ns ++ rest)) = [] := by
    refine List.filter_eq_nil_iff.mpr fun i hi => ?_
    rw [List.mem_range] at hi
    obtain ⟨v, q1, q2, q3, q4⟩ := gcr_groups ns rest hb (i / 2) (by omega)
    unfold badG
    have : i = 2 * (i / 2) ∨ i = 2 * (i / 2) + 1 := by omega
    rcases this with e | e
    · rw [e, q3, decide_eq_true (back5 _ (by omega)).1]
      decide
    · rw [e, q4, decide_eq_true (back5 _ (by omega)).1]
      decide
  rw [this]
  rfl
/-! ### FM and MFM, and back -/
theorem evens_cons (x y : Int) (L : List Int) (n : Nat) : evens (x :: y :: L) (n + 1) = x :: evens L n := by
  unfold evens
  rw [List.range_succ_eq_map, List.map_cons, List.map_map]
  congr 1
theorem odds_cons (x y : Int) (L : List Int) (n : Nat) : odds (x :: y :: L) (n + 1) = y :: odds L n := by
  unfold odds
  rw [List.range_succ_eq_map, List.map_cons, List.map_map]
  congr 1
theorem fm_odds : ∀ bs rest : List Int, odds (fmZ bs ++ rest) bs.length = bs
  | [], _ => rfl
  | b :: r, rest => by
    have e : fmZ (b :: r) ++ rest = 1 :: b :: (fmZ r ++ rest) := rfl
    rw [e, List.length_cons, odds_cons, fm_odds r rest]
theorem fm_evens : ∀ bs rest : List Int, evens (fmZ bs ++ rest) bs.length = List.replicate bs.length 1
  | [], _ => rfl
  | b :: r, rest => by
    have e : fmZ (b :: r) ++ rest = 1 :: b :: (fmZ r ++ rest) := rfl
    rw [e, List.length_cons, evens_cons, fm_evens r rest, List.replicate_succ]
theorem mfm_odds : ∀ (l : Int) (bs rest : List Int), odds (mfmF l bs ++ rest) bs.length = bs
  | _, [], _ => rfl
  | l, b :: r, rest => by
    have e : mfmF l (b :: r) ++ rest = clk l b :: b :: (mfmF b r ++ rest) := rfl
    rw [e, List.length_cons, odds_cons, mfm_odds b r rest]
theorem mfm_evens : ∀ (l : Int) (bs rest : List Int) (i : Nat), i < bs.length → (evens (mfmF l bs ++ rest) bs.length).getD i 0 = clk (lastB l bs i) (bs.getD i 0)
  | _, [], _, _, h => absurd h (Nat.not_lt_zero _)
  | l, b :: r, rest, i, h => by
    have e : mfmF l (b :: r) ++ rest = clk l b :: b :: (mfmF b r ++ rest) := rfl
    rw [e, List.length_cons, evens_cons]
    cases i with
    | zero => rfl
    | succ i =>
      rw [List.getD_cons_succ, mfm_evens b r rest i (by simpa using h), List.getD_cons_succ]
      congr 1
      cases i with
      | zero => rfl
      | succ i => rfl
theorem fm_faults (n : Nat) : fmF (List.replicate n 1) = [] := by
  unfold fmF
  have : (List.range (List.replicate n (1 : Int)).length).filter (fun i => !decide ((List.replicate n (1 : Int)).getD i 0 = 1)) = [] := by
    refine List.filter_eq_nil_iff.mpr fun i hi => ?_
    rw [List.mem_range, List.length_replicate] at hi
    have : (List.replicate n (1 : Int)).getD i 0 = 1 := by
      rw [List.getD_eq_getElem?_getD, List.getElem?_replicate, if_pos hi]
      rfl
    rw [this]
    decide
  rw [this]
  rfl
theorem mfm_faults (l : Int) (bs rest : List Int) : mfmFa l (evens (mfmF l bs ++ rest) bs.length) bs = [] := by
  unfold mfmFa
  have : (List.range (evens (mfmF l bs ++ rest) bs.length).length).filter (mfmT l (evens (mfmF l bs ++ rest) bs.length) bs) = [] := by
    refine List.filter_eq_nil_iff.mpr fun i hi => ?_
    rw [List.mem_range, evens_len] at hi
    unfold mfmT
    rw [mfm_evens l bs rest i hi, decide_eq_true rfl]
    decide
  rw [this]
  rfl
theorem bytes_bits : ∀ ns : List Int, Bytes ns → bytesZ (bitsOf ns) = ns
  | [], _ => rfl
  | x :: r, hb => by
    have hx := hb x List.mem_cons_self
    have ih := bytes_bits r fun y hy => hb y (List.mem_cons_of_mem _ hy)
    have e : bitsOf (x :: r) = bits8 x.toNat ++ bitsOf r := rfl
    have hl : (bits8 x.toNat ++ bitsOf r).length / 8 = (bitsOf r).length / 8 + 1 := by rw [List.length_append, bits8_len]; omega
    unfold bytesZ at ih ⊢
    rw [e, hl, List.range_succ_eq_map, List.map_cons, List.map_map]
    have e0 : byteZ (((bits8 x.toNat ++ bitsOf r).drop (8 * 0)).take 8) = x := by
      rw [Nat.mul_zero, List.drop_zero, List.take_left' (bits8_len _), byteZ_bits8 (by omega)]
      omega
    rw [e0]
    refine congrArg (x :: ·) (Eq.trans ?_ ih)
    refine List.map_congr_left fun k _ => ?_
    simp only [Function.comp]
    have e8 : 8 * (k + 1) = (bits8 x.toNat).length + 8 * k := by rw [bits8_len]; omega
    rw [Nat.succ_eq_add_one, e8, List.drop_append, List.drop_eq_nil_of_le (by omega), List.nil_append, Nat.add_sub_cancel_left]
theorem mfm0 : ∀ l : Nat, l < 2 → ∀ b : Nat, b < 2 → ∀ n : Nat, n < 3 → (l = 1 ∧ n ≠ 0) ∨ (okR 0 4 n [clk (l : Nat) (b : Nat), (b : Nat)] = true ∧ (endR 0 n [clk (l : Nat) (b : Nat), (b : Nat)] < 3 ∧ (b ≠ 1 ∨ endR 0 n [clk (l : Nat) (b : Nat), (b : Nat)] = 0))) := by
  have t : ((List.range 2).all fun l => (List.range 2).all fun b => (List.range 3).all fun n => (decide (l = 1) && decide (n ≠ 0)) || (okR 0 4 n [clk (l : Nat) (b : Nat), (b : Nat)] && (decide (endR 0 n [clk (l : Nat) (b : Nat), (b : Nat)] < 3) && (decide (b ≠ 1) || decide (endR 0 n [clk (l : Nat) (b : Nat), (b : Nat)] = 0))))) = true := by decide +kernel
  simp only [List.all_eq_true, List.mem_range, Bool.or_eq_true, Bool.and_eq_true, decide_eq_true_eq] at t
  exact t
theorem mfm1 : ∀ l : Nat, l < 2 → ∀ b : Nat, b < 2 → okR 1 2 l [clk (l : Nat) (b : Nat), (b : Nat)] = true ∧ endR 1 l [clk (l : Nat) (b : Nat), (b : Nat)] = b := by decide +kernel
theorem mfm_run0 : ∀ (bs : List Int) (l n : Nat), (∀ b ∈ bs, b = 0 ∨ b = 1) → l < 2 → n < 3 → (l = 1 → n = 0) → okR 0 4 n (mfmF (l : Int) bs) = true
  | [], l, n, _, _, hn, _ => decide_eq_true (by omega)
  | b :: r, l, n, hb, hl, hn, hln => by
    obtain ⟨m, hm, rfl⟩ : ∃ m : Nat, m < 2 ∧ b = (m : Int) := by
      rcases hb b List.mem_cons_self with rfl | rfl
      · exact ⟨0, by decide, rfl⟩
      · exact ⟨1, by decide, rfl⟩
    obtain ⟨h1, h2, h3⟩ := (mfm0 l hl m hm n hn).resolve_left fun h => h.2 (hln h.1)
    exact okR_append 0 4 [clk (l : Int) (m : Int), (m : Int)] (mfmF (m : Int) r) n h1 (mfm_run0 r m _ (fun x hx => hb x (List.mem_cons_of_mem _ hx)) hm h2 fun e => h3.resolve_left fun q => q e)
theorem mfm_run1 : ∀ (bs : List Int) (l : Nat), (∀ b ∈ bs, b = 0 ∨ b = 1) → l < 2 → okR 1 2 l (mfmF (l : Int) bs) = true
  | [], l, _, hl => decide_eq_true (by omega)
  | b :: r, l, hb, hl => by
    obtain ⟨m, hm, rfl⟩ : ∃ m : Nat, m < 2 ∧ b = (m : Int) := by
      rcases hb b List.mem_cons_self with rfl | rfl
      · exact ⟨0, by decide, rfl⟩
      · exact ⟨1, by decide, rfl⟩
    obtain ⟨h1, h2⟩ := mfm1 l hl m hm
    refine okR_append 1 2 [clk (l : Int) (m : Int), (m : Int)] (mfmF (m : Int) r) l h1 ?_
    rw [h2]
    exact mfm_run1 r m (fun x hx => hb x (List.mem_cons_of_mem _ hx)) hm
def rRepS : R2 := fun x y H Q => ∃ i n, x = .str i ∧ y = .int n ∧ MulOk i n ∧ Q (.str (Txt.mul i n)) H
theorem op_rep_str : OpR X (binaryOp .Mult) rRepS := by
  intro pins s σ H x y v u Q I rx ry h
  obtain ⟨i, j, rfl, rfl, hz, q⟩ := h
  obtain ⟨t, rfl⟩ := rx
  obtain ⟨t', rfl⟩ := ry
  exact SB.mul hz (fun t' tk => ⟨.str (Txt.mul i j), H, I.tok _, ⟨_, rfl⟩, q⟩)
theorem nine_ok : MulOk (Str.ofString "1") 9 := by
  refine ⟨by decide, fun _ _ => by decide, fun _ _ => by decide⟩
theorem nine : TL.tl (Txt.mul (Str.ofString "1") 9) = List.replicate 9 (48 + (1 : Int)).toNat := by decide +kernel
theorem three0 : TL.tl (Str.ofString "000") = List.replicate 3 (48 + (0 : Int)).toNat := by decide +kernel
theorem four0 : TL.tl (Str.ofString "0000") = List.replicate 4 (48 + (0 : Int)).toNat := by decide +kernel
theorem two1 : TL.tl (Str.ofString "11") = List.replicate 2 (48 + (1 : Int)).toNat := by decide +kernel
end Dw

namespace Dw
open PySem PySem.Spec PyProof.Rows L2
/-! ### comprehensions over the int keys of a locked dict -/
theorem key_at {kvs : List (Key × V)} {ks : List Int} (hk : kvs.map (·.1) = ks.map Sum.inl) {i : Nat} {k : Key} {v : V} (h : kvs[i]? = some (k, v)) : ∃ z, ks[i]? = some z ∧ k = .inl z := by
  have e : (kvs.map (·.1))[i]? = some k := by rw [List.getElem?_map, h]; rfl
  rw [hk, List.getElem?_map] at e
  obtain ⟨z, hz, e2⟩ := Option.map_eq_some_iff.mp e
  exact ⟨z, hz, e2.symm⟩
theorem lc_keys {d : Addr} {o : Obj} {kvs : List (Key × V)} {ks : List Int} {p : Int → Bool} {g : Int → V} {tt : TT} {j : Nat} {te : TE} {vs : List Nat} {σ : L2.St} {H1 : Hp} {D : Addr} {Qd : Hp → Prop} (hk : kvs.map (·.1) = ks.map Sum.inl) (hn : ks.length ≤ 16777215) (hF : H1 d = some (.frz o (.dK kvs))) (hD : H1 D = none) (hw : ∀ v, wipe ((wipe σ vs).set j v) vs = wipe σ vs)
    (htt : ∀ k H3 (Q' : Bool → Hp → Prop), k ∈ ks → Same H1 H3 → (∀ H4, Same H3 H4 → Q' (p k) H4) → tt ((wipe σ vs).set j (some (.int k))) H3 Q')
    (hte : ∀ k H3 (Q' : VK), k ∈ ks → Same H1 H3 → (∀ H4, Same H3 H4 → Q' (g k) H4) → te ((wipe σ vs).set j (some (.int k))) H3 Q')
    (hd : ∀ H', Same H1 H' → H' D = some (.lst ((ks.filter p).map g)) → Qd H') : LcW (Itk d o kvs) (gName j) tt te vs σ H1 D Qd := by
  have kl : kvs.length = ks.length := by
    have := congrArg List.length hk
    rwa [List.length_map, List.length_map] at this
  refine lc_it walk_keys (fun i H' => Same H1 H' ∧ H' D = some (.lst (((ks.take i).filter p).map g))) ⟨same_new hD _, upd_same⟩ (fun i H _ h => h.1 _ _ hF) ?_ ?_
  · intro i x H H' hi h hy
    obtain ⟨h1, h2⟩ := h
    obtain ⟨rfl, ky, v, hkv, rfl⟩ := hy
    obtain ⟨z, hz, rfl⟩ := key_at hk hkv
    have hm := List.mem_of_getElem? hz
    refine ⟨hw _, ?_⟩
    refine htt z H' _ hm h1 fun H4 s4 => ?_
    have h4 := s4 _ _ h2
    by_cases c : p z = true
    · rw [if_pos c]
      refine hte z H4 _ hm (h1.trans s4) fun H5 s5 => ?_
      have h5 := s5 _ _ h4
      refine ⟨_, h5, ?_, ?_⟩
      · rw [List.length_map]
        have q1 := List.length_filter_le p (ks.take i)
        rw [List.length_take] at q1
        exact line_lt (by omega)
      · refine ⟨fun b ob hb => ?_, ?_⟩
        · rw [upd_ne (ne_of_none hb hD)]
          exact s5 _ _ (s4 _ _ (h1 _ _ hb))
        · rw [upd_same, take_more hz, List.filter_append, List.map_append, List.filter_cons_of_pos c]
          rfl
    · rw [if_neg c]
      refine ⟨h1.trans s4, ?_⟩
      rw [h4, take_more hz, List.filter_append, List.filter_cons_of_neg c, List.filter_nil, List.append_nil]
  · intro H h
    rw [kl, List.take_length] at h
    exact hd H h.1 h.2
theorem lc_intsF {K : PySem.W.Frag} {a : Addr} {ks : List Int} {p : Int → Bool} {g : Int → V} {tt : TT} {j : Nat} {te : TE} {vs : List Nat} {σ : L2.St} {H1 : Hp} {D : Addr} {Qd : Hp → Prop} (hn : ks.length ≤ 16777215) (hA : H1 a = some (IL ks)) (hD : H1 D = none) (hw : ∀ v, wipe ((wipe σ vs).set j v) vs = wipe σ vs)
    (htt : ∀ k H3 (Q' : Bool → Hp → Prop), k ∈ ks → Same H1 H3 → (∀ H4, Same H3 H4 → Q' (p k) H4) → tt ((wipe σ vs).set j (some (.int k))) H3 Q')
    (hte : ∀ k H3 (Q' : VK), k ∈ ks → Same H1 H3 → (∀ H4, Same H3 H4 → Q' (g k) H4) → te ((wipe σ vs).set j (some (.int k))) H3 Q')
    (hd : ∀ H', Same H1 H' → H' D = some (.lst ((ks.filter p).map g)) → Qd H') : LcW (Itl K a) (gName j) tt te vs σ H1 D Qd := by
  refine lc_list (K := K) (a := a) (xs := ks.map V.int) (fun i H' => Same H1 H' ∧ H' D = some (.lst (((ks.take i).filter p).map g))) ⟨same_new hD _, upd_same⟩ (fun i H _ h => .of (h.1 _ _ hA)) ?_ ?_
  · intro i x H hi h
    obtain ⟨h1, h2⟩ := h
    obtain ⟨z, rfl, hz⟩ := ints_at hi
    have hm := List.mem_of_getElem? hz
    refine ⟨hw _, ?_⟩
    refine htt z H _ hm h1 fun H4 s4 => ?_
    have h4 := s4 _ _ h2
    by_cases c : p z = true
    · rw [if_pos c]
      refine hte z H4 _ hm (h1.trans s4) fun H5 s5 => ?_
      have h5 := s5 _ _ h4
      refine ⟨_, h5, ?_, ?_⟩
      · rw [List.length_map]
        have q1 := List.length_filter_le p (ks.take i)
        rw [List.length_take] at q1
        exact line_lt (by omega)
      · refine ⟨fun b ob hb => ?_, ?_⟩
        · rw [upd_ne (ne_of_none hb hD)]
          exact s5 _ _ (s4 _ _ (h1 _ _ hb))
        · rw [upd_same, take_more hz, List.filter_append, List.map_append, List.filter_cons_of_pos c]
          rfl
    · rw [if_neg c]
      refine ⟨h1.trans s4, ?_⟩
      rw [h4, take_more hz, List.filter_append, List.filter_cons_of_neg c, List.filter_nil, List.append_nil]
  · intro H h
    rw [List.length_map, List.take_length] at h
    exact hd H h.1 h.2
theorem lc_rangeR {lo : Int} {n j : Nat} {R : Nat → V → Prop} {te : TE} {vs : List Nat} {σ : L2.St} {H1 : Hp} {D : Addr} {Qd : Hp → Prop} (hn : n ≤ 16777215) (hD : H1 D = none) (hw : ∀ v, wipe ((wipe σ vs).set j v) vs = wipe σ vs)
    (hte : ∀ i H3 (Q' : VK), i < n → Same H1 H3 → (∀ v H4, R i v → Same H3 H4 → Q' v H4) → te ((wipe σ vs).set j (some (.int (lo + (i : Nat))))) H3 Q')
    (hd : ∀ xs H', Same H1 H' → H' D = some (.lst xs) → xs.length = n → (∀ i v, xs[i]? = some v → R i v) → Qd H') : LcW (Itr lo n) (gName j) tYes te vs σ H1 D Qd := by
  refine lc_range (lo := lo) (n := n) (fun i H' => Same H1 H' ∧ ∃ xs : List V, H' D = some (.lst xs) ∧ xs.length = i ∧ ∀ i v, xs[i]? = some v → R i v) ⟨same_new hD _, [], upd_same, rfl, fun i v h => by simp at h⟩ ?_ ?_
  · intro i H hi h
    obtain ⟨h1, xs, h2, h3, h4⟩ := h
    refine ⟨hw _, ?_⟩
    simp only [tYes, if_true]
    refine hte i H _ hi h1 fun v H4 hR s4 => ?_
    refine ⟨xs, s4 _ _ h2, line_lt (by omega), fun b o hb => ?_, xs ++ [v], upd_same, by rw [List.length_append, h3]; rfl, fun k x hx => ?_⟩
    · rw [upd_ne (ne_of_none hb hD)]
      exact s4 _ _ (h1 _ _ hb)
    · by_cases c : k < xs.length
      · rw [List.getElem?_append_left c] at hx
        exact h4 k x hx
      · rw [List.getElem?_append_right (by omega)] at hx
        have : k - xs.length = 0 := by
          cases q : k - xs.length with
          | zero => rfl
          | succ m => rw [q] at hx; simp at hx
        rw [this] at hx
        have e : k = i := by omega
        rw [e, ← Option.some.inj hx]
        exact hR
  · intro H h
    obtain ⟨h1, xs, h2, h3, h4⟩ := h
    exact hd xs H h1 h2 h3 h4
/-! ### how often each value stands in a list -/
def keysOf (ns : List Int) : List Int := ns.foldl (fun ks v => if v ∈ ks then ks else ks ++ [v]) []
theorem keys_ok : ∀ (ns ks : List Int), ks.Nodup → (ns.foldl (fun ks v => if v ∈ ks then ks else ks ++ [v]) ks).Nodup ∧ ∀ z, z ∈ ns.foldl (fun ks v => if v ∈ ks then ks else ks ++ [v]) ks ↔ z ∈ ks ∨ z ∈ ns
  | [], ks, h => ⟨h, fun z => by simp⟩
  | v :: r, ks, h => by
    rw [List.foldl_cons]
    by_cases c : v ∈ ks
    · rw [if_pos c]
      obtain ⟨h1, h2⟩ := keys_ok r ks h
      refine ⟨h1, fun z => ?_⟩
      rw [h2, List.mem_cons]
      constructor
      · rintro (h | h)
        · exact .inl h
        · exact .inr (.inr h)
      · rintro (h | rfl | h)
        · exact .inl h
        · exact .inl c
        · exact .inr h
    · rw [if_neg c]
      obtain ⟨h1, h2⟩ := keys_ok r (ks ++ [v]) (by
        rw [List.nodup_append]
        refine ⟨h, by simp, fun a ha b hb => ?_⟩
        rw [List.mem_singleton] at hb
        exact fun e => c (hb ▸ e ▸ ha))
      refine ⟨h1, fun z => ?_⟩
      rw [h2, List.mem_append, List.mem_singleton, List.mem_cons]
      constructor
      · rintro ((h | h) | h)
        · exact .inl h
        · exact .inr (.inl h)
        · exact .inr (.inr h)
      · rintro (h | h | h)
        · exact .inl (.inl h)
        · exact .inl (.inr h)
        · exact .inr h
theorem keysOf_nodup (ns : List Int) : (keysOf ns).Nodup := (keys_ok ns [] List.nodup_nil).1
theorem mem_keysOf {ns : List Int} {z : Int} : z ∈ keysOf ns ↔ z ∈ ns := by
  unfold keysOf
  rw [(keys_ok ns [] List.nodup_nil).2]
  simp
theorem keysOf_len (ns : List Int) : (keysOf ns).length ≤ ns.length := by
  have h : ∀ (ns ks : List Int), (ns.foldl (fun ks v => if v ∈ ks then ks else ks ++ [v]) ks).length ≤ ks.length + ns.length := by
    intro ns
    induction ns with
    | nil => intro ks; exact Nat.le_refl _
    | cons v r ih =>
      intro ks
      rw [List.foldl_cons]
      refine Nat.le_trans (ih _) ?_
      rw [List.length_cons]
      split
      · omega
      · rw [List.length_append]; simp; omega
  have h2 := h ns []
  rw [List.length_nil, Nat.zero_add] at h2
  exact h2
theorem keysOf_more {ns : List Int} {i : Nat} {v : Int} (h : ns[i]? = some v) : keysOf (ns.take (i + 1)) = if v ∈ keysOf (ns.take i) then keysOf (ns.take i) else keysOf (ns.take i) ++ [v] := by
  unfold keysOf
  rw [take_more h, List.foldl_append]
  rfl
def kvC (ns : List Int) : List (Key × V) := (keysOf ns).map fun z => (.inl z, .int ((ns.count z : Nat) : Int))
theorem kvC_keys (ns : List Int) : (kvC ns).map (·.1) = (keysOf ns).map Sum.inl := by
  unfold kvC
  rw [List.map_map]
  rfl
theorem kvC_len (ns : List Int) : (kvC ns).length = (keysOf ns).length := List.length_map _
theorem valV_map (f : Int → V) (z : Int) : ∀ ks : List Int, valV (ks.map fun z => ((Sum.inl z : Key), f z)) (.inl z) = if z ∈ ks then some (f z) else none
  | [] => rfl
  | k :: r => by
    rw [List.map_cons]
    by_cases c : k = z
    · subst c
      rw [valV_pos rfl, if_pos List.mem_cons_self]
    · rw [valV_neg (fun e => c (Sum.inl.inj e)), valV_map f z r]
      have : (z ∈ k :: r) ↔ z ∈ r := by
        rw [List.mem_cons]
        exact ⟨fun h => h.resolve_left fun e => c e.symm, .inr⟩
      by_cases c2 : z ∈ r
      · rw [if_pos c2, if_pos (this.mpr c2)]
      · rw [if_neg c2, if_neg fun h => c2 (this.mp h)]
theorem valV_kvC (ns : List Int) (z : Int) : valV (kvC ns) (.inl z) = if z ∈ ns then some (.int ((ns.count z : Nat) : Int)) else none := by
  unfold kvC
  rw [valV_map]
  by_cases c : z ∈ ns
  · rw [if_pos c, if_pos (mem_keysOf.mpr c)]
  · rw [if_neg c, if_neg fun h => c (mem_keysOf.mp h)]
theorem getD_kvC (ns : List Int) (z : Int) : (valV (kvC ns) (.inl z)).getD (.int 0) = .int ((ns.count z : Nat) : Int) := by
  rw [valV_kvC]
  by_cases c : z ∈ ns
  · rw [if_pos c]; rfl
  · rw [if_neg c, List.count_eq_zero_of_not_mem c]; rfl
theorem putK_kvC {ns : List Int} {i : Nat} {v : Int} (h : ns[i]? = some v) : putK (kvC (ns.take i)) (.inl v) (.int (((ns.take i).count v : Nat) + 1 : Int)) = kvC (ns.take (i + 1)) := by
  have hc : ∀ z, (ns.take (i + 1)).count z = (ns.take i).count z + if v = z then 1 else 0 := fun z => by
    rw [take_more h, List.count_append]
    congr 1
    rw [List.count_cons, List.count_nil]
    by_cases e : v = z
    · subst e; simp
    · simp [e]
  by_cases c : v ∈ keysOf (ns.take i)
  · have hany : ((kvC (ns.take i)).any fun kv => decide (kv.1 = Sum.inl v)) = true := by
      rw [List.any_eq_true]
      exact ⟨_, List.mem_map.mpr ⟨v, c, rfl⟩, decide_eq_true rfl⟩
    unfold putK
    rw [if_pos hany]
    unfold kvC
    rw [keysOf_more h, if_pos c, List.map_map]
    refine List.map_congr_left fun z hz => ?_
    simp only [Function.comp]
    rw [hc z]
    by_cases e : z = v
    · subst e
      rw [if_pos rfl, if_pos rfl]
      rfl
    · rw [if_neg fun q => e (Sum.inl.inj q), if_neg fun q => e q.symm]
      rfl
  · rw [putK_new _ (by rw [valV_kvC, if_neg fun m => c (mem_keysOf.mpr m)])]
    unfold kvC
    rw [keysOf_more h, if_neg c, List.map_append]
    congr 1
    · refine List.map_congr_left fun z hz => ?_
      rw [hc z, if_neg fun q => c (by rw [q]; exact hz)]
      rfl
    · show [((Sum.inl v : Key), V.int (((ns.take i).count v : Nat) + 1 : Int))] = [((Sum.inl v : Key), V.int (((ns.take (i + 1)).count v : Nat) : Int))]
      rw [hc v, if_pos rfl]
      rfl
/-! ### the winner -/
def topOf (ns : List Int) (m : Int) : List Int := (keysOf ns).filter fun z => decide (((ns.count z : Nat) : Int) = m)
/-- what one place of a merged dump is -/
def mergedV (ns : List Int) (v : V) : Prop := ∃ m : Int, (∃ z ∈ ns, ((ns.count z : Nat) : Int) = m) ∧ (∀ z ∈ ns, ((ns.count z : Nat) : Int) ≤ m) ∧ v = if (topOf ns m).length = 1 then .int ((topOf ns m).getD 0 0) else .non
theorem merged_of {ns : List Int} {m : Int} (h1 : ∃ z ∈ ns, ((ns.count z : Nat) : Int) = m) (h2 : ∀ z ∈ ns, ((ns.count z : Nat) : Int) ≤ m) {best : List Int} (hp : best.Pairwise (· < ·)) (hb : ∀ z, z ∈ best ↔ z ∈ ns ∧ ((ns.count z : Nat) : Int) = m) {v : V} (hv : mergedV ns v) :
    v = if best.length = 1 then .int (best.getD 0 0) else .non := by
  obtain ⟨m2, ⟨z2, a1, a2⟩, a3, rfl⟩ := hv
  obtain ⟨z1, b1, b2⟩ := h1
  have hm : m2 = m := by
    have q1 := h2 z2 a1
    have q2 := a3 z1 b1
    omega
  subst hm
  have hmem : ∀ z, z ∈ topOf ns m2 ↔ z ∈ best := fun z => by
    unfold topOf
    rw [List.mem_filter, decide_eq_true_eq, mem_keysOf, hb]
  have hnd : (topOf ns m2).Nodup := (keysOf_nodup ns).filter _
  have hnb : best.Nodup := hp.imp fun h => by omega
  have perm : (topOf ns m2).Perm best := (List.perm_ext_iff_of_nodup hnd hnb).mpr hmem
  rw [perm.length_eq]
  by_cases c : best.length = 1
  · rw [if_pos c, if_pos c]
    match best, c with
    | [b], _ =>
      rw [List.perm_singleton.mp perm]
  · rw [if_neg c, if_neg c]
end Dw

/-! sums of tuples, an own __eq__ that may be False, isinstance of an own instance -/
namespace Dw
open PySem PySem.Spec PyProof.Rows L2
section
variable {prog : Program} {w : World} {A : Around} {E : Value → Shared → Prop} {s : Shared} {l : Addr} {xs : Array (Int × Tok)}
theorem sum_tupW {Q : Value → Shared → Prop} (hh : A.handled = none) (hl : s.heap.IsTuple l (intItems xs))
    (h : ∀ h' tk t', (∀ b o, s.heap.get? b = some o → h'.get? b = some o) → Q (.int (preSum (numAt xs) xs.size) t') { s with heap := h', toks := tk }) :
    wpAny (model prog w) A (call (.builtin "sum") [.ref l]) Q E s := by
  have hlt : l < s.heap.objs.size := by
    obtain ⟨_, e, _⟩ := hl
    exact Heap.lt_size e
  refine call_sum_walkG (wpAny_pyIter_tuple hl ?_)
  refine ⟨_, [s.heap.objs.size, l], [s.heap.objs.size], _, _, _, numAt xs, rfl, Walks.tuple (A := A.in1) hh _ l (Nat.ne_of_lt hlt) (intItems xs), ⟨⟨_, Heap.get?_push_size _ rfl, rfl, rfl⟩, hl.push _⟩, fun b hb => ?_, (fun _ _ => intItems_at), fun h' tk t' hk => ?_⟩
  · show b < (s.heap.push _).objs.size
    rw [Heap.size_push]
    simp only [List.mem_cons, List.not_mem_nil, or_false] at hb
    rcases hb with rfl | rfl
    · exact Nat.lt_succ_self _
    · exact Nat.lt_succ_of_lt hlt
  · have := h h' tk t' fun b o e => hk b o (fun hm => by
      have hb := Heap.lt_size e
      rw [List.mem_singleton.mp hm] at hb
      exact Nat.lt_irrefl _ hb) (Heap.get?_push_of_some _ e)
    simpa [intItems] using this
end
def rSumT (K : PySem.W.Frag) : List V → Hp → VK → Prop := fun vs H Q => ∃ (a : Addr) (ns : List Int), vs = [V.ref a] ∧ SqT K H a (ns.map V.int) ∧ Q (.int ns.sum) H
section
variable {X : Cx}
theorem cr_sumT (hc : X.calm = true) : CallR X (.builtin "sum") (rSumT X.K) := by
  intro pins s σ H vs us Q I r h
  obtain ⟨a, ns, rfl, hs, q⟩ := h
  obtain ⟨its, rv, hl, _⟩ := I.tuple hs
  rw [Vals.ref1 r]
  obtain ⟨xs, e⟩ := rv.ints.allInts.items
  have hn : numsOf (intItems xs).toList = ns := by
    rw [← e]
    exact rv.ints.numsOf
  rw [nums_intItems] at hn
  rw [e] at hl
  refine sum_tupW (I.ok.hd hc) hl fun h' tk t' hk => ?_
  rw [preSum_eq, List.take_of_length_le (by simp), hn]
  exact ⟨.int _, H, I.kept hk, ⟨_, rfl⟩, q⟩
def rEqOwn (C : Addr) (sp : Sp) : R2 := fun x y H Q => ∃ a b dx dy fs gs, x = .ref a ∧ y = .ref b ∧ H a = some (.ins C dx fs) ∧ H b = some (.ins C dy gs) ∧ sp [.ref a, .ref b] H (fun v H' => ∃ k, v = .bl k ∧ Q v H') E0
theorem op_eqOwn {n : Nat} {C f : Addr} {fd : FuncData} {ps : List Str} {sp : Sp} (M : Meth X.K C "__eq__" f) (F : FnOk X.prog X.w X.K X.mg X.base CX0 n f fd ps sp) (hb : Binds X.K fd ps []) (hr : Room n X.A) : OpR X (compareOp .Eq) (rEqOwn C sp) := by
  intro pins s σ H x y v u Q I rx ry hq
  obtain ⟨a, b, dx, dy, fs, gs, rfl, rfl, ha, hb', hsp⟩ := hq
  show wpAny (model X.prog X.w) X.A (richCompare .Eq v u) (EP X pins σ Q) X.xe s
  cases rx
  cases ry
  obtain ⟨mA, J, _⟩ := ins_get I.hok ha
  obtain ⟨mB, J', _⟩ := ins_get I.hok hb'
  obtain ⟨od, J, _⟩ := J.look
  obtain ⟨od', J', _⟩ := J'.look
  obtain ⟨m, hF⟩ := I.fr
  refine PySem.W.cmp_K (op := .Eq) (tb := .ref C) hr.units0 hF I.ok.mod.kin J J'.type (by simp [PySem.W.notFirst]) M.at_ M.fn ?_
  refine wpAny_mono (run_fn (us := [.ref a, .ref b]) (vs := [.ref a, .ref b]) (dvs := []) F hr hb .nil pass0 I (.cons rfl (.cons rfl .nil)) hsp) (fun v s' q => ?_) fun _ _ e => e
  obtain ⟨z, H', I', rz, k, ez, q⟩ := q
  subst ez
  cases rz
  exact ⟨.bl k, H', I', rfl, q⟩
def rIsC (C : Addr) : List V → Hp → VK → Prop := fun xs H Q => ∃ a dx fs, xs = [.ref a, .ref C] ∧ H a = some (.ins C dx fs) ∧ Q (.bl true) H
theorem call_isOwn {C : Addr} (c : C8.InsC X.K C) : CallR X (.builtin "isinstance") (rIsC C) := C8.call_isC c
end
end Dw

/-! != by an own __eq__ -/
namespace Dw
open PySem PySem.Spec PyProof.Rows L2
section
variable {X : Cx}
def rNeOwn (C : Addr) (sp : Sp) : R2 := fun x y H Q => ∃ a b dx dy fs gs, x = .ref a ∧ y = .ref b ∧ H a = some (.ins C dx fs) ∧ H b = some (.ins C dy gs) ∧ sp [.ref a, .ref b] H (fun v H' => ∃ k, v = .bl k ∧ Q (.bl (!k)) H') E0
/-- the call of the own __eq__, one builtin further in -/
theorem run_in1 {n : Nat} {f : Addr} {fd : FuncData} {ps : List Str} {sp : Sp} {A : Around} {pins : List (Addr × Obj)} {σ : L2.St} {H : Hp} {s : Shared} {a b : Addr} {R : VK} (Fn : FnOk X.prog X.w X.K X.mg X.base CX0 n f fd ps sp) (hb : Binds X.K fd ps []) (hr : Room n A) (hA : A.frames = X.A.frames) (I : Inv X pins σ H s)
    (hsp : sp [.ref a, .ref b] H R E0) : wpAny (model X.prog X.w) A (call (.ref f) [.ref a, .ref b]) (EP X pins σ R) X.xe s := by
  have e0 : Env0 X.prog X.w X.K X.mg X.base A X.stack s H := by
    have e := I.env0
    exact ⟨by rw [hA]; exact e.frames, e.mod, e.bs, e.bsz, e.funs, e.frf, e.hok, e.bare⟩
  have hl := Fn.len _ _ _ _ hsp
  refine wpAny_call (codeAny_mono (Fn.run A X.stack s H ⟨[.ref a, .ref b], []⟩ [.ref a, .ref b] [.ref a, .ref b] R E0 hr e0 (by
    have := hb s [.ref a, .ref b] I.kIn (by simpa using hl)
    simpa using this) (.cons rfl (.cons rfl .nil)) hsp) fun r s' hq => ?_)
  match r, hq with
  | .error e, hq => exact pass0 pins σ H s e s' I hq
  | .ok (.ret v), hq => exact I.after hq
/-- tuple(t), t a tuple -/
def rTupT (K : PySem.W.Frag) : List V → Hp → VK → Prop := fun xs H Q => ∃ p ys, xs = [V.ref p] ∧ SqT K H p ys ∧ Q (.ref p) H
theorem call_tupTT : CallR X (.type "tuple") (rTupT X.K) := by
  intro pins s σ H xs us Q I r h
  obtain ⟨p, ys, e, h1, q⟩ := h
  exact call_tuple_of pins s σ H xs us Q I r ⟨p, ys, e, .inr ⟨h1, q⟩⟩
theorem op_neOwn {n : Nat} {C f : Addr} {fd : FuncData} {ps : List Str} {sp : Sp} (M : Meth X.K C "__eq__" f) (hne : PySem.W.findIn X.K (.ref C) "__ne__" = some (some (.builtin "object.__ne__"))) (hob : PySem.W.mroIn X.K C (.type "object") = some true)
    (F : FnOk X.prog X.w X.K X.mg X.base CX0 n f fd ps sp) (hb : Binds X.K fd ps []) (hr : Room (n + 4) X.A) : OpR X (compareOp .NotEq) (rNeOwn C sp) := by
  intro pins s σ H x y v u Q I rx ry hq
  obtain ⟨a, b, dx, dy, fs, gs, rfl, rfl, ha, hb', hsp⟩ := hq
  show wpAny (model X.prog X.w) X.A (richCompare .NotEq v u) (EP X pins σ Q) X.xe s
  cases rx
  cases ry
  obtain ⟨mA, J, _⟩ := ins_get I.hok ha
  obtain ⟨mB, J', _⟩ := ins_get I.hok hb'
  obtain ⟨od, J, _⟩ := J.look
  obtain ⟨od', J', _⟩ := J'.look
  have one : wpAny (model X.prog X.w) X.A (tryCompare (.ref a) "__ne__" (.ref b)) (fun r s' => ∃ v, r = some v ∧ EP X pins σ Q v s') X.xe s := by
    have S := PySem.F.cmp_object.ne
    have kin := I.kIn
    have hi : PySem.W.Looks (model X.prog X.w) s.heap (isInstance (.ref a) (.type "object")) true := J.type.andThen (PySem.W.looks_mroIn kin hob)
    have hcall : wpAny (model X.prog X.w) X.A (call (.builtin "object.__ne__") [.ref a, .ref b]) (fun v s' => v ≠ .notImplemented ∧ EP X pins σ Q v s') X.xe s := by
      refine wpAny_call (codeAny_call_builtin S.plain PySem.F.cmpEntry_ne (PySem.W.check_slot PySem.F.cmpKind_ne PySem.F.cmpSplit_ne hi (PySem.F.cmpArgs_ne _ _) ?_))
      unfold Builtin.«object.__ne__»
      refine wpAny_bind (wpAny_of_eq (a := (Value.ref a, [Value.ref b])) (by rfl) ?_)
      dsimp only
      refine wpAny_bind (wpAny_cRoomFor (hr.in1 (k := n + 3)).units0 ?_)
      refine wpAny_bind (PySem.W.ifBound_K kin J M.at_ M.fn (wpAny_mono (run_in1 F hb ((hr.in1 (k := n + 3)).mono (by omega)) rfl I hsp) (fun v s' q => ?_) fun _ _ e => e))
      obtain ⟨z, H', I', rz, k, ez, q⟩ := q
      subst ez
      cases rz
      show wpAny _ _ (truthy (.bool k) >>= fun t => ret (.bool (!t))) _ _ _
      refine wpAny_bind (wpAny_of_eq (a := k) (by rfl) ?_)
      exact wpAny_pure ⟨(fun e => by cases e), .bl (!k), H', I', rfl, q⟩
    unfold tryCompare
    refine wpAny_bind ?_
    simp only [callSpecialIfBound?, bindSpecialIfBound?]
    refine wpAny_holding (wpAny_bind (wpAny_bind (wpAny_bind (J.type.here ((PySem.W.looks_findIn kin hne).here ?_)))))
    simp only [S.bind]
    refine wpAny_bind (wpAny_askSetting (wpAny_ite ?_))
    have fin : wpAny (model X.prog X.w) X.A (call (.builtin "object.__ne__") ([.ref a] ++ [.ref b]) >>= fun v => pure (some v)) (fun r s' => wpAny (model X.prog X.w) X.A
          (match r with
            | some Value.notImplemented => pure none
            | none => pure none
            | some v => pure (some v)) (fun r s' => ∃ v, r = some v ∧ EP X pins σ Q v s') X.xe s') X.xe s := by
      refine wpAny_bind (wpAny_mono hcall (fun v s' hv => wpAny_pure ?_) fun _ _ e => e)
      obtain ⟨h1, h2⟩ := hv
      cases v <;> first | exact absurd rfl h1 | exact wpAny_pure ⟨_, rfl, h2⟩
    split
    · exact wpAny_bind (wpAny_pure (wpAny_pure fin))
    · exact wpAny_tryCatch (wpAny_bind (wpAny_pure (wpAny_pure fin)))
  unfold richCompare
  simp only [oneThing_ref]
  refine wpAny_holding (wpAny_bind (wpAny_cRoomFor hr.units0 ?_))
  refine wpAny_bind (J.type.here (wpAny_bind (J'.type.here ?_)))
  rw [if_neg (by simp)]
  refine wpAny_bind (wpAny_pure ?_)
  simp only [Bool.false_eq_true, if_false]
  refine wpAny_bind (wpAny_mono one (fun r s' z => ?_) fun _ _ e => e)
  obtain ⟨v, rfl, hq⟩ := z
  exact wpAny_pure hq
end
end Dw

/-! changes of patches -/
namespace Dw
open PySem PySem.Spec PyProof.Rows L2
abbrev Ch := Int × List Int × List Int
def ChAt (H : Hp) (x : V) (c : Ch) : Prop := ∃ t o n, x = .ref t ∧ H t = some (.tup [.int c.1, .ref o, .ref n]) ∧ H o = some (.tup (c.2.1.map V.int)) ∧ H n = some (.tup (c.2.2.map V.int))
def ChsAt (H : Hp) (xs : List V) (cs : List Ch) : Prop := xs.length = cs.length ∧ ∀ (i : Nat) x, xs[i]? = some x → ∃ c, cs[i]? = some c ∧ ChAt H x c
theorem ChAt.same {H H' : Hp} {x : V} {c : Ch} (s : Same H H') (h : ChAt H x c) : ChAt H' x c := by
  obtain ⟨t, o, n, e, h1, h2, h3⟩ := h
  exact ⟨t, o, n, e, s _ _ h1, s _ _ h2, s _ _ h3⟩
theorem ChsAt.same {H H' : Hp} {xs : List V} {cs : List Ch} (s : Same H H') (h : ChsAt H xs cs) : ChsAt H' xs cs :=
  ⟨h.1, fun i x e => let ⟨c, h1, h2⟩ := h.2 i x e; ⟨c, h1, h2.same s⟩⟩
theorem ChsAt.nil {H : Hp} : ChsAt H [] [] := ⟨rfl, fun i x e => by simp at e⟩
theorem ChsAt.push {H : Hp} {xs : List V} {cs : List Ch} {x : V} {c : Ch} (h : ChsAt H xs cs) (hx : ChAt H x c) : ChsAt H (xs ++ [x]) (cs ++ [c]) := by
  refine ⟨by rw [List.length_append, List.length_append, h.1]; rfl, fun i y e => ?_⟩
  by_cases hi : i < xs.length
  · rw [List.getElem?_append_left hi] at e
    obtain ⟨d, h1, h2⟩ := h.2 i y e
    exact ⟨d, by rw [List.getElem?_append_left (by rw [← h.1]; exact hi)]; exact h1, h2⟩
  · rw [List.getElem?_append_right (by omega)] at e
    have h0 : i - xs.length = 0 := by
      cases q : i - xs.length with
      | zero => rfl
      | succ m => rw [q] at e; simp at e
    rw [h0] at e
    cases e
    refine ⟨c, ?_, hx⟩
    have hc := h.1
    have e2 : i = cs.length := by omega
    rw [e2, List.getElem?_append_right (Nat.le_refl _), Nat.sub_self]
    rfl
theorem ChAt.ups {H : Hp} {D : Addr} {u o' : HO} {x : V} {c : Ch} (hD : H D = some u) (hn : ∀ xs, u ≠ .tup xs) (h : ChAt H x c) : ChAt (upd H D o') x c := by
  obtain ⟨t, o, n, e, h1, h2, h3⟩ := h
  have ne : ∀ {a : Addr} {xs : List V}, H a = some (.tup xs) → a ≠ D := fun ha e => by
    subst e
    rw [hD] at ha
    exact hn _ (Option.some.inj ha)
  exact ⟨t, o, n, e, by rw [upd_ne (ne h1)]; exact h1, by rw [upd_ne (ne h2)]; exact h2, by rw [upd_ne (ne h3)]; exact h3⟩
theorem ChsAt.ups {H : Hp} {D : Addr} {u o' : HO} {xs : List V} {cs : List Ch} (hD : H D = some u) (hn : ∀ xs, u ≠ .tup xs) (h : ChsAt H xs cs) : ChsAt (upd H D o') xs cs :=
  ⟨h.1, fun i x e => let ⟨c, h1, h2⟩ := h.2 i x e; ⟨c, h1, h2.ups hD hn⟩⟩
def Fit : Int → List Ch → Prop
  | _, [] => True
  | l, c :: r => l ≤ c.1 ∧ Bytes c.2.1 ∧ Bytes c.2.2 ∧ c.2.1.length ≤ 4 ∧ c.2.2.length ≤ 4 ∧ c.2.1 ≠ c.2.2 ∧ Fit (c.1 + c.2.1.length + 1) r
def opp : Int → List Ch → List Ch
  | _, [] => []
  | s, c :: r => (c.1 + s, c.2.2, c.2.1) :: opp (s + c.2.2.length - c.2.1.length) r
theorem opp_len : ∀ (cs : List Ch) (s : Int), (opp s cs).length = cs.length
  | [], _ => rfl
  | c :: r, s => by show (opp _ r).length + 1 = r.length + 1; rw [opp_len r]
theorem opp_opp : ∀ (cs : List Ch) (s : Int), opp (-s) (opp s cs) = cs
  | [], _ => rfl
  | c :: r, s => by
    show (c.1 + s + -s, c.2.1, c.2.2) :: opp (-s + c.2.1.length - c.2.2.length) (opp (s + c.2.2.length - c.2.1.length) r) = c :: r
    have e : -s + (c.2.1.length : Int) - c.2.2.length = -(s + c.2.2.length - c.2.1.length) := by omega
    have e2 : c.1 + s + -s = c.1 := by omega
    rw [e, opp_opp r, e2]
theorem Fit.opp : ∀ (cs : List Ch) (l s : Int), Fit l cs → Fit (l + s) (Dw.opp s cs)
  | [], _, _, _ => trivial
  | c :: r, l, s, h => by
    obtain ⟨h1, h2, h3, h4, h5, h6, h7⟩ := h
    refine ⟨by show l + s ≤ c.1 + s; omega, h3, h2, h5, h4, Ne.symm h6, ?_⟩
    have := Fit.opp r _ (s + c.2.2.length - c.2.1.length) h7
    have e : c.1 + (c.2.1.length : Int) + 1 + (s + c.2.2.length - c.2.1.length) = c.1 + s + c.2.2.length + 1 := by omega
    rw [e] at this
    exact this
def chD (c : Ch) : PyData := .tuple [.int c.1, .tuple (c.2.1.map PyData.int), .tuple (c.2.2.map PyData.int)]
theorem chs_shal : ∀ cs : List Ch, ShalAll (cs.map chD) 6
  | [] => .nil
  | c :: r => .cons (.tup (.cons .int (.cons (.tup .ints) (.cons (.tup .ints) .nil)))) (chs_shal r)
theorem shaped_of {d : PyData} (hs : Shal d 7) : SeqAt.shaped d = true := by
  unfold SeqAt.shaped
  rw [Bool.and_eq_true]
  exact ⟨hs.1, decide_eq_true (by have := hs.2; omega)⟩
theorem eqvAll_chs : ∀ cs ds : List Ch, PyData.eqvAll (cs.map chD) (ds.map chD) = decide (cs = ds)
  | [], [] => by
    show PyData.eqvAll [] [] = _
    rw [PyData.eqvAll]
    rfl
  | [], _ :: _ => by
    show PyData.eqvAll [] (_ :: _) = _
    rw [PyData.eqvAll, decide_eq_false (fun e => by cases e)]
  | _ :: _, [] => by
    show PyData.eqvAll (_ :: _) [] = _
    rw [PyData.eqvAll, decide_eq_false (fun e => by cases e)]
  | (z, o, n) :: r, (z2, o2, n2) :: t => by
    show PyData.eqvAll (.tuple [.int z, .tuple (o.map PyData.int), .tuple (n.map PyData.int)] :: r.map chD) (.tuple [.int z2, .tuple (o2.map PyData.int), .tuple (n2.map PyData.int)] :: t.map chD) = _
    rw [PyData.eqvAll, eqvAll_chs r t, PyData.eqv, PyData.eqvAll, PyData.eqv, PyData.eqvAll, PyData.eqv, eqvAll_ints, PyData.eqvAll, PyData.eqv, eqvAll_ints, PyData.eqvAll, Bool.eq_iff_iff]
    simp only [Bool.and_eq_true, decide_eq_true_eq, beq_iff_eq, List.cons.injEq, Prod.mk.injEq]
    constructor
    · rintro ⟨⟨h1, h2, h3, _⟩, h4⟩
      exact ⟨⟨h1, h2, h3⟩, h4⟩
    · rintro ⟨⟨h1, h2, h3⟩, h4⟩
      exact ⟨⟨h1, h2, h3, trivial⟩, h4⟩
theorem dt_tupI {H : Hp} {p : Addr} {ns : List Int} (h : H p = some (.tup (ns.map V.int))) : Dt H (.ref p) (.tuple (ns.map PyData.int)) := .tup h (dt_ints ns)
theorem ChAt.dt {H : Hp} {x : V} {c : Ch} (h : ChAt H x c) : Dt H x (chD c) := by
  obtain ⟨t, o, n, rfl, h1, h2, h3⟩ := h
  exact .tup h1 (.cons (.int _) (.cons (dt_tupI h2) (.cons (dt_tupI h3) .nil)))
theorem ChsAt.dt {H : Hp} : ∀ {xs : List V} {cs : List Ch}, ChsAt H xs cs → DtAll H xs (cs.map chD)
  | [], [], _ => .nil
  | [], _ :: _, h => by have := h.1; simp at this
  | _ :: _, [], h => by have := h.1; simp at this
  | x :: r, c :: t, h => by
    obtain ⟨d, hd, hx⟩ := h.2 0 x rfl
    cases hd
    exact .cons hx.dt (ChsAt.dt ⟨by have := h.1; simpa using this, fun i y e => h.2 (i + 1) y e⟩)
def PatchAt (C : Addr) (H : Hp) (x : Addr) (cs : List Ch) : Prop := ∃ dx t xs, H x = some (.ins C dx [("changes", .ref t)]) ∧ H t = some (.tup xs) ∧ ChsAt H xs cs
theorem PatchAt.same {C : Addr} {H H' : Hp} {x : Addr} {cs : List Ch} (s : Same H H') (h : PatchAt C H x cs) : PatchAt C H' x cs := by
  obtain ⟨dx, t, xs, h1, h2, h3⟩ := h
  exact ⟨dx, t, xs, s _ _ h1, s _ _ h2, h3.same s⟩
def spPatchInit (C : Addr) : Sp := fun vs H Q _ => ∃ (x dx a : Addr) (xs : List V) (cs : List Ch), vs = [.ref x, .ref a] ∧ H x = some (.ins C dx []) ∧ H a = some (.lst xs) ∧ ChsAt H xs cs ∧ cs.length ≤ 100 ∧ Fit 0 cs ∧
  ∀ H', SameB x H H' → (∃ t ys, H' x = some (.ins C dx [("changes", .ref t)]) ∧ H' t = some (.tup ys) ∧ ChsAt H' ys cs) → Q .non H'
def spPatch (C : Addr) : Sp := fun vs H Q _ => ∃ (a : Addr) (xs : List V) (cs : List Ch), vs = [.ref a] ∧ H a = some (.lst xs) ∧ ChsAt H xs cs ∧ cs.length ≤ 100 ∧ Fit 0 cs ∧
  ∀ r H', Same H H' → H r = none → PatchAt C H' r cs → Q (.ref r) H'
theorem conv_patch {C : Addr} : Conv C (spPatchInit C) (spPatch C) := by
  intro vs H Q E ⟨a, xs, cs, e, hA, hC, hl, hF, h1⟩ x dx nx nd ne
  subst e
  have s0 : Same H (upd H dx (.own x)) := same_new nd _
  have nx' : upd H dx (.own x) x = none := by rw [upd_ne ne.symm]; exact nx
  have s1 : Same (upd H dx (.own x)) (upd (upd H dx (.own x)) x (.ins C dx [])) := same_new nx' _
  have s := s0.trans s1
  refine ⟨x, dx, a, xs, cs, rfl, upd_same, s _ _ hA, hC.same s, hl, hF, fun H' sb h => ⟨rfl, h1 x H' (fun b o hb => sb b o (ne_of_none hb nx) (s b o hb)) nx ?_⟩⟩
  obtain ⟨t, ys, e1, e2, e3⟩ := h
  exact ⟨dx, t, ys, e1, e2, e3⟩
def spEqP (C : Addr) : Sp := fun vs H Q _ => ∃ (x y : Addr) (cs ds : List Ch), vs = [.ref x, .ref y] ∧ PatchAt C H x cs ∧ PatchAt C H y ds ∧ Q (.bl (decide (cs = ds))) H
def spOpp (C : Addr) : Sp := fun vs H Q _ => ∃ (x : Addr) (cs : List Ch), vs = [.ref x] ∧ PatchAt C H x cs ∧ cs.length ≤ 100 ∧ Fit 0 cs ∧ ∀ r H', Same H H' → H r = none → PatchAt C H' r (opp 0 cs) → Q (.ref r) H'
theorem ChsAt.pool {H H' : Hp} {p q : Addr} {xs : List V} {cs : List Ch} (hP : Pool H p q) (s : SameB p H H') (h : ChsAt H xs cs) : ChsAt H' xs cs := by
  obtain ⟨ns, a, b, c, d, hp, _⟩ := hP
  have ne : ∀ {r : Addr} {ys : List V}, H r = some (.tup ys) → r ≠ p := fun hr e => by
    subst e
    rw [hp] at hr
    cases hr
  refine ⟨h.1, fun i x e => ?_⟩
  obtain ⟨c, h1, t, o, n, e1, q1, q2, q3⟩ := h.2 i x e
  exact ⟨c, h1, t, o, n, e1, s _ _ (ne q1) q1, s _ _ (ne q2) q2, s _ _ (ne q3) q3⟩
theorem Fit.more : ∀ (cs : List Ch) (l : Int) (c d : Ch), Fit l (cs ++ [c]) → c.1 + c.2.1.length + 1 ≤ d.1 → Bytes d.2.1 → Bytes d.2.2 → d.2.1.length ≤ 4 → d.2.2.length ≤ 4 → d.2.1 ≠ d.2.2 → Fit l (cs ++ [c] ++ [d])
  | [], l, c, d, h, h1, h2, h3, h4, h5, h6 => by
    obtain ⟨g1, g2, g3, g4, g5, g6, _⟩ := h
    exact ⟨g1, g2, g3, g4, g5, g6, h1, h2, h3, h4, h5, h6, trivial⟩
  | b :: r, l, c, d, h, h1, h2, h3, h4, h5, h6 => by
    obtain ⟨g1, g2, g3, g4, g5, g6, g7⟩ := h
    exact ⟨g1, g2, g3, g4, g5, g6, Fit.more r _ c d g7 h1 h2 h3 h4 h5 h6⟩
end Dw

/-! tracks as they are written: sectors, fields, gaps -/
namespace Dw
open PySem PySem.Spec PyProof.Rows L2
/-! ### small readings -/
/-- xs[-1] of a list of ints -/
def rIxL : R2 := fun x y H Q => ∃ p ns, x = .ref p ∧ y = .int (-1) ∧ H p = some (IL ns) ∧ ns ≠ [] ∧ Q (.int (ns.getLastD 0)) H
theorem ix_listL {X : Cx} : IxR X rIxL := IxR.imp ix_listH fun x y H Q h => by
  obtain ⟨p, ns, e1, e2, h1, h2, q⟩ := h
  refine ⟨p, ns.map V.int, -1, _, e1, e2, h1, ?_, q⟩
  have e : ns = ns.dropLast ++ [ns.getLastD 0] := by
    rw [List.getLastD_eq_getLast?, List.getLast?_eq_some_getLast h2]
    exact (List.dropLast_concat_getLast h2).symm
  rw [e, List.map_append]
  simp only [List.map_cons, List.map_nil]
  rw [atI_last]
  simp
/-- list(t) of a tuple of ints -/
def rListTI (K : PySem.W.Frag) : List V → Hp → VK → Prop := fun xs H Q => ∃ p ns, xs = [.ref p] ∧ SqT K H p (ns.map V.int) ∧ ∀ l, H l = none → Q (.ref l) (upd H l (IL ns))
theorem call_listTI {X : Cx} : CallR X (.type "list") (rListTI X.K) := CallR.imp call_list_of fun xs H Q h => by
  obtain ⟨p, ns, e, h1, q⟩ := h
  exact ⟨p, _, e, .inr h1, q⟩
/-! ### sectors -/
abbrev Sec := List Int × Option (List Int) × Bool × Bool
def dataV (da : Option (List Int)) : PyData := match da with | none => .none | some ns => .tuple (ns.map PyData.int)
/-- a value that is None or a list of ints -/
def DatL (H : Hp) (v : V) (da : Option (List Int)) : Prop := (da = none ∧ v = .non) ∨ ∃ a ns, da = some ns ∧ v = .ref a ∧ H a = some (IL ns)
/-- .. or a tuple of ints -/
def DatT (H : Hp) (v : V) (da : Option (List Int)) : Prop := (da = none ∧ v = .non) ∨ ∃ a ns, da = some ns ∧ v = .ref a ∧ H a = some (.tup (ns.map V.int))
theorem DatL.same {H H' : Hp} {v : V} {da : Option (List Int)} (s : Same H H') (h : DatL H v da) : DatL H' v da := by
  rcases h with h | ⟨a, ns, e1, e2, e3⟩
  · exact .inl h
  · exact .inr ⟨a, ns, e1, e2, s _ _ e3⟩
theorem DatT.same {H H' : Hp} {v : V} {da : Option (List Int)} (s : Same H H') (h : DatT H v da) : DatT H' v da := by
  rcases h with h | ⟨a, ns, e1, e2, e3⟩
  · exact .inl h
  · exact .inr ⟨a, ns, e1, e2, s _ _ e3⟩
theorem DatT.dt {H : Hp} {v : V} {da : Option (List Int)} (h : DatT H v da) : Dt H v (dataV da) := by
  rcases h with ⟨rfl, rfl⟩ | ⟨a, ns, rfl, rfl, h⟩
  · exact .non
  · exact dt_tupI h
theorem shal_data {da : Option (List Int)} {k : Nat} : Shal (dataV da) (k + 2) := by
  cases da with
  | none => exact .non
  | some ns => exact .tup .ints
theorem eqv_data (a b : Option (List Int)) : PyData.eqv (dataV a) (dataV b) = decide (a = b) := by
  cases a with
  | none =>
    cases b with
    | none => rw [decide_eq_true rfl]; rfl
    | some y => rw [decide_eq_false (fun e => by cases e)]; rfl
  | some x =>
    cases b with
    | none => rw [decide_eq_false (fun e => by cases e)]; rfl
    | some y =>
      show PyData.eqv (.tuple (x.map PyData.int)) (.tuple (y.map PyData.int)) = _
      rw [PyData.eqv, eqvAll_ints]
      by_cases c : x = y
      · rw [decide_eq_true c, decide_eq_true (congrArg some c)]
      · rw [decide_eq_false c, decide_eq_false (fun e => c (Option.some.inj e))]
theorem all_bytes {ns : List Int} (h : Bytes ns) : (ns.all fun z => decide (0 ≤ z) && decide (z ≤ 255)) = true := by
  rw [List.all_eq_true]
  intro y hy
  have := h y hy
  rw [decide_eq_true this.1, decide_eq_true (by omega)]
  rfl
theorem putF_le (x : Str) (v : V) : ∀ fs : List (Str × V), (putF x v fs).length ≤ fs.length + 1
  | [] => Nat.le_refl _
  | (y, u) :: r => by
    unfold putF
    split
    · exact Nat.le_succ _
    · have := putF_le x v r
      simp only [List.length_cons]
      omega
/-- the plan of a sector: a tuple of four -/
def RawAt (H : Hp) (x : V) (s : Sec) : Prop := ∃ t ta v, x = .ref t ∧ H t = some (.tup [.ref ta, v, .bl s.2.2.1, .bl s.2.2.2]) ∧ H ta = some (.tup (s.1.map V.int)) ∧ DatL H v s.2.1
theorem RawAt.same {H H' : Hp} {x : V} {s : Sec} (e : Same H H') (h : RawAt H x s) : RawAt H' x s := by
  obtain ⟨t, ta, v, h0, h1, h2, h3⟩ := h
  exact ⟨t, ta, v, h0, e _ _ h1, e _ _ h2, h3.same e⟩
def secF (ta : Addr) (v : V) (aw dw : Bool) : List (Str × V) := [("address", .ref ta), ("data", v), ("address_wrong", .bl aw), ("data_wrong", .bl dw)]
theorem sf_address {ta : Addr} {v : V} {aw dw : Bool} : List.lookup ("address" : Str) (secF ta v aw dw) = some (.ref ta) := by
  unfold secF
  simp [List.lookup]
theorem sf_data {ta : Addr} {v : V} {aw dw : Bool} : List.lookup ("data" : Str) (secF ta v aw dw) = some v := by
  have e1 : (("data" : Str) == ("address" : Str)) = false := by decide +kernel
  unfold secF
  simp [List.lookup, e1]
theorem sf_aw {ta : Addr} {v : V} {aw dw : Bool} : List.lookup ("address_wrong" : Str) (secF ta v aw dw) = some (.bl aw) := by
  have e1 : (("address_wrong" : Str) == ("address" : Str)) = false := by decide +kernel
  have e2 : (("address_wrong" : Str) == ("data" : Str)) = false := by decide +kernel
  unfold secF
  simp [List.lookup, e1, e2]
theorem sf_dw {ta : Addr} {v : V} {aw dw : Bool} : List.lookup ("data_wrong" : Str) (secF ta v aw dw) = some (.bl dw) := by
  have e1 : (("data_wrong" : Str) == ("address" : Str)) = false := by decide +kernel
  have e2 : (("data_wrong" : Str) == ("data" : Str)) = false := by decide +kernel
  have e3 : (("data_wrong" : Str) == ("address_wrong" : Str)) = false := by decide +kernel
  unfold secF
  simp [List.lookup, e1, e2, e3]
theorem sf_put {ta : Addr} {v : V} {aw dw : Bool} : putF "data_wrong" (.bl dw) (putF "address_wrong" (.bl aw) (putF "data" v (putF "address" (.ref ta) []))) = secF ta v aw dw := by
  have e1 : ¬ ("address" : Str) = "data" := by decide +kernel
  have e2 : ¬ ("address" : Str) = "address_wrong" := by decide +kernel
  have e3 : ¬ ("address" : Str) = "data_wrong" := by decide +kernel
  have e4 : ¬ ("data" : Str) = "address_wrong" := by decide +kernel
  have e5 : ¬ ("data" : Str) = "data_wrong" := by decide +kernel
  have e6 : ¬ ("address_wrong" : Str) = "data_wrong" := by decide +kernel
  simp [putF, secF, e1, e2, e3, e4, e5, e6]
/-- a Sector -/
def SecAt (C : Addr) (H : Hp) (x : V) (s : Sec) : Prop := ∃ p dx ta v, x = .ref p ∧ H p = some (.ins C dx (secF ta v s.2.2.1 s.2.2.2)) ∧ H ta = some (.tup (s.1.map V.int)) ∧ DatT H v s.2.1
theorem SecAt.same {C : Addr} {H H' : Hp} {x : V} {s : Sec} (e : Same H H') (h : SecAt C H x s) : SecAt C H' x s := by
  obtain ⟨t, dx, ta, v, h0, h1, h2, h3⟩ := h
  exact ⟨t, dx, ta, v, h0, e _ _ h1, e _ _ h2, h3.same e⟩
/-- things told one by one -/
def AllAt {α : Type} (R : V → α → Prop) (xs : List V) (ss : List α) : Prop := xs.length = ss.length ∧ ∀ (i : Nat) x, xs[i]? = some x → ∃ s, ss[i]? = some s ∧ R x s
theorem AllAt.imp {α : Type} {R R' : V → α → Prop} {xs : List V} {ss : List α} (h : AllAt R xs ss) (i : ∀ x s, R x s → R' x s) : AllAt R' xs ss := ⟨h.1, fun j x e => let ⟨s, h1, h2⟩ := h.2 j x e; ⟨s, h1, i _ _ h2⟩⟩
theorem AllAt.nil {α : Type} {R : V → α → Prop} : AllAt R [] ([] : List α) := ⟨rfl, fun i x e => by simp at e⟩
theorem AllAt.push {α : Type} {R : V → α → Prop} {xs : List V} {ss : List α} {x : V} {s : α} (h : AllAt R xs ss) (hx : R x s) : AllAt R (xs ++ [x]) (ss ++ [s]) := by
  refine ⟨by rw [List.length_append, List.length_append, h.1]; rfl, fun i y e => ?_⟩
  by_cases hi : i < xs.length
  · rw [List.getElem?_append_left hi] at e
    obtain ⟨c, h1, h2⟩ := h.2 i y e
    exact ⟨c, by rw [List.getElem?_append_left (h.1 ▸ hi)]; exact h1, h2⟩
  · have hi' : i = xs.length := by
      have := (List.getElem?_eq_some_iff.mp e).1
      rw [List.length_append] at this
      simp at this
      omega
    subst hi'
    rw [List.getElem?_append_right (Nat.le_refl _), Nat.sub_self] at e
    cases e
    exact ⟨s, by rw [h.1, List.getElem?_append_right (Nat.le_refl _), Nat.sub_self]; rfl, hx⟩
theorem AllAt.at {α : Type} {R : V → α → Prop} {xs : List V} {ss : List α} (h : AllAt R xs ss) {i : Nat} {s : α} (e : ss[i]? = some s) : ∃ x, xs[i]? = some x ∧ R x s := by
  have hl := (List.getElem?_eq_some_iff.mp e).1
  have hx : xs[i]? = some (xs[i]'(by have := h.1; omega)) := List.getElem?_eq_getElem _
  obtain ⟨s', h1, h2⟩ := h.2 i _ hx
  rw [e] at h1
  cases h1
  exact ⟨_, hx, h2⟩
/-- what a sector may be -/
def OkSec (s : Sec) : Prop := ∃ a b c d : Int, s.1 = [a, b, c, d] ∧ Bytes s.1 ∧ d ≤ 5 ∧ ∀ ns, s.2.1 = some ns → ns.length = 16 * 2 ^ d.toNat ∧ Bytes ns
/-! ### cells -/
def markZ : List Int := [0, 1, 0, 0, 0, 1, 0, 0, 1, 0, 0, 0, 1, 0, 0, 1]
def marksZ : List Int := markZ ++ markZ ++ markZ
def gapZ (n : Nat) (b : Int) : List Int := mfmF b (bitsOf (List.replicate n 78))
def pairZ (c : Int) : List Int := [c / 256, c % 256]
def chkZ (ns : List Int) (w : Bool) : Int := if w = true then crcZ ([161, 161, 161] ++ ns) + 1 - 2 * (crcZ ([161, 161, 161] ++ ns) % 2) else crcZ ([161, 161, 161] ++ ns)
theorem chkZ_nn (ns : List Int) (w : Bool) : 0 ≤ chkZ ns w ∧ chkZ ns w < 65536 := by
  have h := crcZ_nn ([161, 161, 161] ++ ns)
  unfold chkZ
  split
  · omega
  · exact h
theorem pairZ_bytes {c : Int} (h : 0 ≤ c ∧ c < 65536) : Bytes (pairZ c) := by
  intro x hx
  unfold pairZ at hx
  simp only [List.mem_cons, List.not_mem_nil, or_false] at hx
  rcases hx with rfl | rfl <;> omega
def fieldZ (ns : List Int) (w : Bool) : List Int := mfmF 0 (bitsOf (List.replicate 6 0)) ++ marksZ ++ mfmF 1 (bitsOf (ns ++ pairZ (chkZ ns w)))
def secStep (cells : List Int) (s : Sec) : List Int :=
  let c1 := cells ++ fieldZ (254 :: s.1) s.2.2.1
  let c2 := c1 ++ gapZ 8 (c1.getLastD 0)
  let c3 := match s.2.1 with | none => c2 | some d => c2 ++ fieldZ (251 :: d) s.2.2.2
  c3 ++ gapZ 8 (c3.getLastD 0)
/-- the data field behind c2, if there is one -/
def datC (c2 : List Int) (da : Option (List Int)) (dw : Bool) : List Int := match da with | none => c2 | some d => c2 ++ fieldZ (251 :: d) dw
theorem secStep_eq (Z ad : List Int) (da : Option (List Int)) (aw dw : Bool) : secStep Z (ad, da, aw, dw) = datC (Z ++ fieldZ (254 :: ad) aw ++ gapZ 8 ((Z ++ fieldZ (254 :: ad) aw).getLastD 0)) da dw ++ gapZ 8 ((datC (Z ++ fieldZ (254 :: ad) aw ++ gapZ 8 ((Z ++ fieldZ (254 :: ad) aw).getLastD 0)) da dw).getLastD 0) := by
  cases da <;> rfl
def trackZ (ss : List Sec) : List Int := ss.foldl secStep (gapZ 10 0)
theorem trackZ_more {ss : List Sec} {i : Nat} {s : Sec} (h : ss[i]? = some s) : trackZ (ss.take (i + 1)) = secStep (trackZ (ss.take i)) s := by
  unfold trackZ
  rw [take_more h, List.foldl_append]
  rfl
theorem gapZ_len (n : Nat) (b : Int) : (gapZ n b).length = 16 * n := by
  unfold gapZ
  rw [mfmF_len, bitsOf_len, List.length_replicate]
  omega
theorem fieldZ_len (ns : List Int) (w : Bool) : (fieldZ ns w).length = 16 * (11 + ns.length) := by
  unfold fieldZ
  rw [List.length_append, List.length_append, mfmF_len, mfmF_len, bitsOf_len, bitsOf_len, List.length_append, List.length_replicate]
  show 2 * (8 * 6) + 48 + 2 * (8 * (ns.length + 2)) = _
  omega
/-- bytes of a sector -/
def secN (s : Sec) : Nat := 32 + match s.2.1 with | none => 0 | some d => 12 + d.length
def trackN (ss : List Sec) : Nat := ss.foldl (fun n s => n + secN s) 10
theorem trackN_more {ss : List Sec} {i : Nat} {s : Sec} (h : ss[i]? = some s) : trackN (ss.take (i + 1)) = trackN (ss.take i) + secN s := by
  unfold trackN
  rw [take_more h, List.foldl_append]
  rfl
theorem secStep_len (cells : List Int) (s : Sec) (h : s.1.length = 4) : (secStep cells s).length = cells.length + 16 * secN s := by
  unfold secStep secN
  simp only
  cases s.2.1 with
  | none =>
    simp only [List.length_append, gapZ_len, fieldZ_len, List.length_cons, h]
    try omega
  | some d =>
    simp only [List.length_append, gapZ_len, fieldZ_len, List.length_cons, h]
    omega
theorem trackZ_len {ss : List Sec} (h : ∀ s ∈ ss, s.1.length = 4) : (trackZ ss).length = 16 * trackN ss := by
  have key : ∀ (ss : List Sec) (c : List Int) (n : Nat), (∀ s ∈ ss, s.1.length = 4) → c.length = 16 * n → (ss.foldl secStep c).length = 16 * ss.foldl (fun n s => n + secN s) n := by
    intro ss
    induction ss with
    | nil => intro c n _ h; exact h
    | cons s r ih =>
      intro c n h h2
      rw [List.foldl_cons, List.foldl_cons]
      refine ih _ _ (fun s hs => h s (List.mem_cons_of_mem _ hs)) ?_
      rw [secStep_len _ _ (h s List.mem_cons_self), h2]
      omega
  exact key ss _ _ h (gapZ_len _ _)
theorem okSec_len {s : Sec} (h : OkSec s) : s.1.length = 4 := by
  obtain ⟨a, b, c, d, e, _⟩ := h
  rw [e]
  rfl
theorem okSec_n {s : Sec} (h : OkSec s) : secN s ≤ 556 := by
  obtain ⟨a, b, c, d, e, hb, hd, h⟩ := h
  unfold secN
  cases h2 : s.2.1 with
  | none => decide
  | some ns =>
    have h3 := (h ns h2).1
    have h4 : 2 ^ d.toNat ≤ 2 ^ 5 := Nat.pow_le_pow_right (by decide) (by omega)
    simp only
    omega
theorem trackN_le {ss : List Sec} (h : ∀ s ∈ ss, OkSec s) : trackN ss ≤ 10 + 556 * ss.length := by
  have key : ∀ (ss : List Sec) (n : Nat), (∀ s ∈ ss, OkSec s) → ss.foldl (fun n s => n + secN s) n ≤ n + 556 * ss.length := by
    intro ss
    induction ss with
    | nil => intro n _; exact Nat.le_refl _
    | cons s r ih =>
      intro n h
      have h1 := ih (n + secN s) fun s hs => h s (List.mem_cons_of_mem _ hs)
      have h2 := okSec_n (h s List.mem_cons_self)
      rw [List.foldl_cons, List.length_cons]
      omega
  exact key ss 10 h
theorem take_all {α : Type} {P : α → Prop} {l : List α} (h : ∀ x ∈ l, P x) (i : Nat) : ∀ x ∈ l.take i, P x := fun x hx => h x (List.mem_of_mem_take hx)
theorem xor1 (n : Nat) : ((n ^^^ 1 : Nat) : Int) = (n : Int) + 1 - 2 * ((n : Int) % 2) := by
  have h := Nat.xor_mod_two_pow (a := n) (b := 1) (n := 1)
  have h2 : (n ^^^ 1) / 2 = n / 2 := by rw [Nat.xor_div_two]; simp
  have h3 : (n ^^^ 1) % 2 = (n % 2) ^^^ 1 := h
  have h4 : n % 2 = 0 ∨ n % 2 = 1 := by omega
  rcases h4 with h4 | h4 <;> rw [h4] at h3
  · have h5 : (n ^^^ 1) % 2 = 1 := h3
    omega
  · have h5 : (n ^^^ 1) % 2 = 0 := h3
    omega
theorem chk_xor (ns : List Int) : ((crcN (161 :: 161 :: 161 :: ns.map Int.toNat) ^^^ 1 : Nat) : Int) = chkZ ns true := by
  rw [xor1]
  rfl
theorem rep3_mark : rep 3 markZ = marksZ := by decide
theorem bytes_rep {n : Nat} {z : Int} (h : 0 ≤ z ∧ z < 256) : Bytes (List.replicate n z) := fun x hx => by
  rw [(List.mem_replicate.mp hx).2]
  exact h
theorem Bytes.app {a b : List Int} (h1 : Bytes a) (h2 : Bytes b) : Bytes (a ++ b) := fun x hx => by
  rcases List.mem_append.mp hx with h | h
  · exact h1 x h
  · exact h2 x h
theorem Bytes.one {z : Int} (h : 0 ≤ z ∧ z < 256) : Bytes [z] := fun x hx => by
  rw [List.mem_singleton.mp hx]
  exact h
/-! ### the law's own CRC -/
theorem flip_bit (n k : Nat) : ((n ^^^ 2 ^ k : Nat) : Int) = (n : Int) + 2 ^ k - 2 * 2 ^ k * ((n : Int) / 2 ^ k % 2) := by
  have e1 : (n ^^^ 2 ^ k) / 2 ^ k = (n / 2 ^ k) ^^^ 1 := by
    rw [divp, Nat.div_self (Nat.two_pow_pos k)]
  have e2 : (n ^^^ 2 ^ k) % 2 ^ k = n % 2 ^ k := by
    rw [modp, Nat.mod_self, Nat.xor_zero]
  have h1 := Nat.div_add_mod (n ^^^ 2 ^ k) (2 ^ k)
  have h2 := Nat.div_add_mod n (2 ^ k)
  rw [e1, e2] at h1
  have h3 := xor1 (n / 2 ^ k)
  have e3 : (n : Int) / 2 ^ k = ((n / 2 ^ k : Nat) : Int) := zdiv n k
  rw [e3]
  have h1' : (2 ^ k : Int) * (((n / 2 ^ k) ^^^ 1 : Nat) : Int) + ((n % 2 ^ k : Nat) : Int) = ((n ^^^ 2 ^ k : Nat) : Int) := by
    rw [← h1]; simp
  have h2' : (2 ^ k : Int) * ((n / 2 ^ k : Nat) : Int) + ((n % 2 ^ k : Nat) : Int) = (n : Int) := by
    conv => rhs; rw [← h2]
    simp
  rw [h3] at h1'
  rw [← h1', ← h2']
  generalize (2 ^ k : Int) = p
  generalize ((n / 2 ^ k : Nat) : Int) = q
  generalize ((n % 2 ^ k : Nat) : Int) = r
  generalize q % 2 = s
  have : p * (q + 1 - 2 * s) = p * q + p - 2 * p * s := by
    rw [Int.mul_sub, Int.mul_add, Int.mul_one, ← Int.mul_assoc, Int.mul_comm p 2]
  omega
def flipsN (m i : Nat) : Nat := ([1, 32, 4096].take i).foldl (· ^^^ ·) m
theorem flips3 (m : Nat) : flipsN m 3 = m ^^^ 4129 := by
  show ((m ^^^ 1) ^^^ 32) ^^^ 4096 = _
  rw [Nat.xor_assoc, Nat.xor_assoc]
  exact congrArg (m ^^^ ·) (by decide)
theorem bits8_get (v k : Nat) (h : k < 8) : (bits8 v)[k]? = some ((v / 2 ^ (7 - k) % 2 : Nat) : Int) := by
  match k, h with
  | 0, _ => rfl
  | 1, _ => rfl
  | 2, _ => rfl
  | 3, _ => rfl
  | 4, _ => rfl
  | 5, _ => rfl
  | 6, _ => rfl
  | 7, _ => simp [bits8]
theorem bits8_int (v : Nat) : [(v : Int) / 128 % 2, (v : Int) / 64 % 2, (v : Int) / 32 % 2, (v : Int) / 16 % 2, (v : Int) / 8 % 2, (v : Int) / 4 % 2, (v : Int) / 2 % 2, (v : Int) % 2] = bits8 v := by
  simp [bits8]
theorem mfmF_snoc (b : Int) (xs : List Int) (y : Int) : mfmF b (xs ++ [y]) = mfmF b xs ++ [clk (lastOf b xs) y, y] := by
  rw [mfmF_append]
  rfl
theorem lastOf_snoc (b : Int) (xs : List Int) (y : Int) : lastOf b (xs ++ [y]) = y := by
  unfold lastOf
  simp
/-! ### the last cell -/
theorem getLastD_append {a b : List Int} {x : Int} (h : b ≠ []) : (a ++ b).getLastD x = b.getLastD x := by
  rw [List.getLastD_eq_getLast?, List.getLastD_eq_getLast?, List.getLast?_append, List.getLast?_eq_some_getLast h]
  rfl
theorem mfmF_last : ∀ (b : Int) (bs : List Int) (x : Int), bs ≠ [] → (mfmF b bs).getLastD x = bs.getLastD x
  | _, [], _, h => absurd rfl h
  | b, [c], x, _ => rfl
  | b, c :: d :: r, x, _ => by
    have ih := mfmF_last c (d :: r) x (by simp)
    show (clk b c :: c :: mfmF c (d :: r)).getLastD x = _
    have e : mfmF c (d :: r) ≠ [] := by
      show clk c d :: d :: mfmF d r ≠ []
      simp
    have e2 : (clk b c :: c :: mfmF c (d :: r)) = [clk b c, c] ++ mfmF c (d :: r) := rfl
    rw [e2, getLastD_append e, ih]
    simp [List.getLastD]
theorem bitsOf_append (a b : List Int) : bitsOf (a ++ b) = bitsOf a ++ bitsOf b := by
  unfold bitsOf
  rw [List.map_append, List.flatten_append]
theorem gapZ_last {n : Nat} {b x : Int} (h : 0 < n) : (gapZ n b).getLastD x = 0 := by
  obtain ⟨m, rfl⟩ : ∃ m, n = m + 1 := ⟨n - 1, by omega⟩
  have e : bitsOf (List.replicate (m + 1) 78) = bitsOf (List.replicate m 78) ++ bits8 78 := by
    rw [List.replicate_succ', bitsOf_append]
    rfl
  unfold gapZ
  rw [mfmF_last _ _ _ (by rw [e]; simp [bits8]), e, getLastD_append (by simp [bits8])]
  rfl
theorem secStep_last (cells : List Int) (s : Sec) (x : Int) : (secStep cells s).getLastD x = 0 := by
  unfold secStep
  simp only
  have g : ∀ b, gapZ 8 b ≠ [] := fun b e => by
    have := gapZ_len 8 b
    rw [e] at this
    cases this
  rw [getLastD_append (g _), gapZ_last (by decide)]
theorem trackZ_last (ss : List Sec) (x : Int) : (trackZ ss).getLastD x = 0 := by
  have key : ∀ (ss : List Sec) (c : List Int), c.getLastD x = 0 → (ss.foldl secStep c).getLastD x = 0 := by
    intro ss
    induction ss with
    | nil => intro c h; exact h
    | cons s r ih => intro c _; rw [List.foldl_cons]; exact ih _ (secStep_last _ _ _)
  exact key ss _ (gapZ_last (by decide))
theorem trackZ_ne (ss : List Sec) : trackZ ss ≠ [] := fun e => by
  have h := trackZ_last ss 1
  rw [e] at h
  cases h
end Dw
namespace Dw
open PySem PySem.Spec PyProof.Rows L2
def lputZ (cs ns : List Int) : List Int := cs ++ mfmF (cs.getLastD 0) (bitsOf ns)
theorem lput_len (cs ns : List Int) : (lputZ cs ns).length = cs.length + 16 * ns.length := by
  unfold lputZ
  rw [List.length_append, mfmF_len, bitsOf_len]
  omega
theorem lfield_eq {cs ns : List Int} {wr : Bool} (h : cs.getLastD 0 = 0) : lputZ (lputZ cs [0, 0, 0, 0, 0, 0] ++ marksZ) (ns ++ pairZ (chkZ ns wr)) = cs ++ fieldZ ns wr := by
  have e1 : (lputZ cs [0, 0, 0, 0, 0, 0] ++ marksZ).getLastD 0 = 1 := by
    rw [getLastD_append (by decide)]
    rfl
  unfold lputZ at e1 ⊢
  rw [e1, h]
  unfold fieldZ
  simp only [List.append_assoc]
  rfl
theorem lput_gap {cs : List Int} {n : Nat} : lputZ cs (List.replicate n 78) = cs ++ gapZ n (cs.getLastD 0) := rfl
theorem flip1 (n : Nat) : ((n ^^^ 1 : Nat) : Int) = (n : Int) + 1 - 2 * ((n : Int) / 1 % 2) := flip_bit n 0
theorem flip32 (n : Nat) : ((n ^^^ 32 : Nat) : Int) = (n : Int) + 32 - 64 * ((n : Int) / 32 % 2) := flip_bit n 5
theorem flip4096 (n : Nat) : ((n ^^^ 4096 : Nat) : Int) = (n : Int) + 4096 - 8192 * ((n : Int) / 4096 % 2) := flip_bit n 12
def spCrcS : Sp := fun vs H Q _ => ∃ (a : Addr) (ns : List Int), vs = [.ref a] ∧ H a = some (IL ns) ∧ Bytes ns ∧ ∀ H', Same H H' → Q (.int (crcZ ns)) H'
end Dw
namespace Dw
open PySem PySem.Spec PyProof.Rows L2
theorem SecAt.ups {C D : Addr} {H : Hp} {xs : List V} {o : HO} {x : V} {s : Sec} (hD : H D = some (.lst xs)) (h : SecAt C H x s) : SecAt C (upd H D o) x s := by
  obtain ⟨p, dx, ta, v, rfl, h1, h2, h3⟩ := h
  have n1 : p ≠ D := fun e => by subst e; rw [h1] at hD; cases hD
  have n2 : ta ≠ D := fun e => by subst e; rw [h2] at hD; cases hD
  refine ⟨p, dx, ta, v, rfl, by rw [upd_ne n1]; exact h1, by rw [upd_ne n2]; exact h2, ?_⟩
  rcases h3 with h3 | ⟨a, ns, e1, e2, e3⟩
  · exact .inl h3
  · have n3 : a ≠ D := fun e => by subst e; rw [e3] at hD; cases hD
    exact .inr ⟨a, ns, e1, e2, by rw [upd_ne n3]; exact e3⟩
theorem RawAt.ups {D : Addr} {H : Hp} {xs : List V} {o : HO} {x : V} {s : Sec} (hD : H D = some (.lst xs)) (hr : ∀ y ∈ xs, ∃ a, y = .ref a) (hn : ∀ ns, s.2.1 = some ns → ns ≠ []) (h : RawAt H x s) : RawAt (upd H D o) x s := by
  obtain ⟨p, ta, v, rfl, h1, h2, h3⟩ := h
  have n1 : p ≠ D := fun e => by subst e; rw [h1] at hD; cases hD
  have n2 : ta ≠ D := fun e => by subst e; rw [h2] at hD; cases hD
  refine ⟨p, ta, v, rfl, by rw [upd_ne n1]; exact h1, by rw [upd_ne n2]; exact h2, ?_⟩
  rcases h3 with h3 | ⟨a, ns, e1, e2, e3⟩
  · exact .inl h3
  · have n3 : a ≠ D := fun e => by
      subst e
      rw [e3] at hD
      unfold IL at hD
      injection hD with hD
      injection hD with hD
      cases ns with
      | nil => exact hn _ e1 rfl
      | cons n r =>
        rw [List.map_cons] at hD
        obtain ⟨b, hb⟩ := hr (V.int n) (by rw [← hD]; exact List.mem_cons_self)
        cases hb
    exact .inr ⟨a, ns, e1, e2, by rw [upd_ne n3]; exact e3⟩
theorem RawAt.refs {H : Hp} {xs : List V} {ss : List Sec} (h : AllAt (RawAt H) xs ss) : ∀ y ∈ xs, ∃ a, y = V.ref a := fun y hy => by
  obtain ⟨i, hi, rfl⟩ := List.getElem_of_mem hy
  obtain ⟨s, _, p, _, _, e, _⟩ := h.2 i _ (List.getElem?_eq_getElem hi)
  exact ⟨p, e⟩
theorem okSec_ne {s : Sec} (h : OkSec s) : ∀ ns, s.2.1 = some ns → ns ≠ [] := fun ns e e2 => by
  obtain ⟨a, b, c, d, _, _, _, h4⟩ := h
  have h5 := (h4 ns e).1
  rw [e2] at h5
  have : 0 < 2 ^ d.toNat := Nat.two_pow_pos _
  simp at h5
  omega
end Dw

/-! enumerate(t) of a tuple -/
namespace Dw
open PySem PySem.Spec PyProof.Rows L2
open Sem (wp)
theorem meets_enumB {v : Value} {o : Obj} {G : Heap → Prop} (B : Begins v o G) :
    Meets (Builtin.«enumerate.__new__» ⟨[.type "enumerate", v], []⟩) (fun _ R s => G s.heap ∧
      R (.ok (.ret (.ref (s.heap.push o).objs.size))) { s with heap := (s.heap.push o).push { cls := .type "enumerate", data := .fields #[.none, .bool false, .ref s.heap.objs.size, rawInt 0, .none, .none] } }) :=
  .of_wp fun prog w A R s h => by
    have hsub := sub_enumerate
    obtain ⟨hp, gens, drawn, toks, outs⟩ := s
    obtain ⟨hG, hR⟩ := h
    have itr : ∀ {A' : Around} {E : Value → Shared → Prop} {Q : Value → Shared → Prop}, Q (.ref hp.objs.size) ⟨hp.push o, gens, drawn, toks, outs⟩ → wpAny (model prog w) A' (pyIter v) Q E ⟨hp, gens, drawn, toks, outs⟩ :=
      fun q => B.iter prog w _ _ ⟨hp, gens, drawn, toks, outs⟩ _ hG q
    wp_walk using itr
    refine wpAny_stack_any fun fr => wpAny_pure ?_
    split
    · rename_i cc _ _ _ _ _
      cases (cc == Value.type "enumerate")
      · (wp_walk using itr); exact ⟨_, rfl, hR⟩
      · (wp_walk using itr); exact ⟨_, rfl, hR⟩
    · (wp_walk using itr); exact ⟨_, rfl, hR⟩
section
variable {prog : Program} {w : World} {A : Around} {E : Value → Shared → Prop} {s : Shared}
theorem call_enumB {v : Value} {o : Obj} {G : Heap → Prop} {Q : Value → Shared → Prop} (B : Begins v o G) (hG : G s.heap)
    (h : ∀ h2, IsEnum h2 (s.heap.objs.size + 1) s.heap.objs.size 0 .none → h2.get? s.heap.objs.size = some o → (∀ b o2, s.heap.get? b = some o2 → h2.get? b = some o2) → Q (.ref (s.heap.objs.size + 1)) { s with heap := h2 }) :
    wpAny (model prog w) A (call (.type "enumerate") [v]) Q E s := by
  refine callType_new F.called_enumerate (by decide) (F.typeCall_enumerate_1 _) (F.newCall_enumerate_1 _) (fun ob => F.args_object_init_2 ob _) F.entry_enumerate_new (meets_enumB B) ⟨hG, ?_⟩
  have sz : (s.heap.push o).objs.size = s.heap.objs.size + 1 := Heap.size_push ..
  show _ ∧ _
  have g1 := Heap.get?_push_size (s.heap.push o) (o := { cls := .type "enumerate", data := .fields #[.none, .bool false, .ref s.heap.objs.size, rawInt 0, .none, .none] }) rfl
  rw [sz] at g1 ⊢
  exact ⟨⟨_, g1, rfl⟩, h _ g1 (Heap.get?_push_of_some _ (Heap.get?_push_size _ B.free)) fun b o2 x => Heap.get?_push_of_some _ (Heap.get?_push_of_some _ x)⟩
end
/-- the tuple at a as it stands at each turn, each item in a new pair -/
def Itet (K : PySem.W.Frag) (a : Addr) : It :=
  ⟨fun i H => ∃ (xs : List V) (x : V), SqT K H a xs ∧ xs[i]? = some x, fun i H v H' => ∃ T x, v = .ref T ∧ H T = none ∧ H' = upd H T (.tup [.int (i : Nat), x]) ∧ ∀ xs, SqT K H a xs → xs[i]? = some x, fun i H => ∃ xs : List V, SqT K H a xs ∧ xs.length ≤ i⟩
theorem turn_enumT {P : Program} {w : World} {K : PySem.W.Frag} {elts : List Expr} {kk : Nat} {tpos : Pos} (a e it : Addr) :
    Turn P w K (.Tuple elts kk tpos) (Itet K a) [e, it] e (fun i h => (∃ old, IsEnum h e it ((i : Nat) : Int) old) ∧ h.IsTupleIter it a i ∧ e ≠ it) where
  mem := List.mem_cons_self
  obj := fun i h st b hb => by
    obtain ⟨⟨old, he⟩, ⟨o, ho, hc, hd⟩, _⟩ := st
    rcases List.mem_cons.mp hb with z | z
    · subst z; exact ⟨_, he, fun v q => nomatch q⟩
    · rw [List.mem_singleton.mp z]; exact ⟨o, ho, fun v q => by rw [hd] at q; cases q⟩
  keep := fun i h h' st k => let ⟨⟨old, he⟩, hi, hne⟩ := st; ⟨⟨old, k e List.mem_cons_self _ he⟩, hi.at fun o q => k it (List.mem_cons_of_mem _ List.mem_cons_self) o q, hne⟩
  item := by
    intro X hP hw hK hc i pins s σ H E I hf st hg
    subst hP hw hK
    obtain ⟨⟨old, he⟩, hit, hne⟩ := st
    obtain ⟨xs, x, hq, hx⟩ := hg
    obtain ⟨its, rv, p, hz⟩ := I.tuple hq
    obtain ⟨u, hu, ru⟩ := rv.get hx
    have hel : e < s.heap.objs.size := Heap.lt_size he
    have hil : it < s.heap.objs.size := by obtain ⟨_, q, _⟩ := hit; exact Heap.lt_size q
    have pt : s.heap.IsTuple a its.toArray := p
    have nea : e ≠ a := fun z => by
      subst z
      obtain ⟨o, ho, hc2, _⟩ := pt
      rw [he] at ho
      cases ho
      injection hc2 with hc2
      exact absurd hc2 (by decide)
    have nia : a ≠ it := fun z => by
      subst z
      obtain ⟨o, ho, hc2, _⟩ := pt
      obtain ⟨o3, ho3, hc3, _⟩ := hit
      rw [ho] at ho3
      cases ho3
      rw [hc2] at hc3
      injection hc3 with hc3
      exact absurd hc3 (by decide)
    have hlt : i < its.toArray.size := by
      have := (List.getElem?_eq_some_iff.mp hu).1
      simpa using this
    have D : Draws X.prog X.w X.A.in1 it [it, a] its.toArray.size (fun j v => its.toArray[j]? = some v) (fun j h => h.IsTupleIter it a j ∧ h.IsTuple a its.toArray) := Draws.tuple (A := X.A.in1) (I.ok.hd hc) it a nia its.toArray
    refine wpAny_pyNext_enum_itemD D he ⟨hit, pt⟩ hlt hne (by simp only [List.mem_cons, List.not_mem_nil, or_false, not_or]; exact ⟨hne, nea⟩) fun x2 h' tk hP ho hs' hT hsz hk => ?_
    have ex2 : x2 = u := by
      have h1 : its.toArray[i]? = some x2 := hP
      have h2 : its.toArray[i]? = some u := by simpa using hu
      rw [h1] at h2
      exact Option.some.inj h2
    subst ex2
    refine ⟨_, rfl, wpAny_letOwnedTupleGo_enum (s := { s with heap := h', toks := tk + 1 }) ho fun h2 he2 sb => ?_⟩
    have hT2 : h2.get? s.heap.objs.size = some { cls := .type "tuple", data := .seq #[.int i tk, x2] } := (sb.2 _ (Nat.ne_of_gt hel)).trans hT
    have new : ObjOk X.prog X.w (upd H s.heap.objs.size (.tup [.int (i : Nat), x])) h2 s.heap.objs.size (.tup [.int (i : Nat), x]) :=
      ⟨by show 2 ≤ sizeLine; decide, [.int i tk, x2], .cons ⟨_, rfl⟩ (.cons ru .nil), ⟨_, hT2, rfl, _, rfl⟩⟩
    have I1 : Inv X pins σ (upd H s.heap.objs.size (.tup [.int (i : Nat), x])) { s with heap := h2, toks := tk + 1 } :=
      I.turnedNew (ch := [e, it]) (fun b ob hb q => by
        have n1 : b ≠ e := fun z => hb (by rw [z]; exact List.mem_cons_self)
        have n2 : b ≠ it := fun z => hb (by rw [z]; exact List.mem_cons_of_mem _ List.mem_cons_self)
        exact (sb.2 b n1).trans (hk b ob n1 n2 q)) hf (Nat.le_refl _) new
    refine ⟨.ref s.heap.objs.size, _, I1, rfl, ⟨_, x, rfl, I.hok.fresh (Nat.le_refl _), rfl, fun ys hy => by rw [I.tuple_inj hy hq]; exact hx⟩, ⟨⟨x2, ?_⟩, hs'.1.at fun o q => (sb.2 it (Ne.symm hne)).trans q, hne⟩, fun b hb => ?_⟩
    · rw [Int.natCast_succ]; exact he2
    · have hb2 : b < s.heap.objs.size := by
        rcases List.mem_cons.mp hb with z | z
        · rw [z]; exact hel
        · rw [List.mem_singleton.mp z]; exact hil
      rw [upd_ne (Nat.ne_of_lt hb2)]
      exact (hf b hb).1
  done := by
    intro X hP hw hK hc i pins s σ H E I hf st hg
    subst hP hw hK
    obtain ⟨⟨old, he⟩, hit, hne⟩ := st
    obtain ⟨xs, hq, hx⟩ := hg
    obtain ⟨its, rv, p, hz⟩ := I.tuple hq
    have pt : s.heap.IsTuple a its.toArray := p
    obtain ⟨f0, f1, f2, f3, f4, f5⟩ := hf it (List.mem_cons_of_mem _ List.mem_cons_self)
    have hl := rv.length
    have D : Draws X.prog X.w X.A.in1 it [it, a] i (fun _ _ => True) (fun j h => j = i ∧ h.IsTupleIter it a i ∧ h.IsTuple a its.toArray) :=
      { live := fun _ _ st => let ⟨o, ho, _⟩ := st.2.1; ⟨o, ho⟩
        frame := fun _ _ _ st k => ⟨st.1, st.2.1.at fun o e => k it List.mem_cons_self o e, st.2.2.at fun o e => k a (List.mem_cons_of_mem _ List.mem_cons_self) o e⟩
        item := fun j s Q E hj st _ => absurd st.1 (Nat.ne_of_lt hj)
        done := fun s Q E st hE => wpAny_nextOf_tuple_end (A := X.A.in1) (I.ok.hd hc) st.2.1 st.2.2 (by simp; omega) hE }
    exact wpAny_pyNext_enum_endD D he ⟨rfl, hit, pt⟩ fun h2 eb => ⟨rfl, I.turned (t' := s.toks) (fun b o hb q => eb b o hb q) f0 f1 f3 f4 f5⟩
  self := fun A i s Q E st h => let ⟨⟨_, he⟩, _⟩ := st; wpAny_pyIter_enum he h
def iEnumT (K : PySem.W.Frag) (ta : TA) : TI := fun σ H R => ta σ H fun vs H1 => ∃ a xs, vs = [.ref a] ∧ SqT K H1 a xs ∧ R (Itet K a) H1
theorem pi_enumT {X : Cx} {e : Expr} {ta : TA} {p pos tpos : Pos} {elts : List Expr} {kk : Nat} (hg : Gl X "enumerate") (hm : X.mg "enumerate" = none) (ha : PA X [e] ta) (hs : starEach [e] X.env = [(false, eval e X.env)] := by rfl) :
    PI X (.Tuple elts kk tpos) (.Call (.Name "enumerate" p) [e] [] pos) (iEnumT X.K ta) := by
  refine ⟨fun pins s σ H R I h => Call_ (ld_blt I hg hm boot_enumerate (PyProof.Rows.callWith_type1 (thn (ha.run pos pins s σ H _ I h) fun us s1 ⟨vs, H1, I1, r1, q1⟩ => ?_) hs rfl))⟩
  obtain ⟨a, xs, ex, hq, q⟩ := q1
  subst ex
  cases r1 with
  | cons r rr =>
    cases rr
    cases r
    obtain ⟨its, rv, p', hz⟩ := I1.tuple hq
    have pt : s1.heap.IsTuple a its.toArray := p'
    refine call_enumB (begins_tuple a its.toArray) pt fun h2 he hit hk => wpAny_pyIter_enum he ?_
    have I2 : Inv X pins σ H1 { s1 with heap := h2 } := I1.kept (t' := s1.toks) hk
    refine ⟨_, [s1.heap.objs.size + 1, s1.heap.objs.size], _, _, H1, rfl, I2, turn_enumT a (s1.heap.objs.size + 1) s1.heap.objs.size, ⟨⟨.none, he⟩, ⟨_, hit, rfl, rfl⟩, Nat.succ_ne_self _⟩, fun b hb => ?_, q⟩
    have hle : s1.heap.objs.size ≤ b := by
      rcases List.mem_cons.mp hb with z | z
      · rw [z]; exact Nat.le_succ _
      · rw [List.mem_singleton.mp z]; exact Nat.le_refl _
    exact I1.fpOk hle (I1.hok.fresh hle)
theorem walk_enumT {K : PySem.W.Frag} {a : Addr} {xs : List V} : Walk (Itet K a) xs.length (fun H => SqT K H a xs) (YPair (fun i => some (.int (i : Nat))) (fun i => xs[i]?)) := by
  refine ⟨fun i _ hi q => ⟨xs, xs[i], q, by simp [hi]⟩, fun _ q => ⟨xs, q, Nat.le_refl _⟩, fun i H v H' _ q y => ?_⟩
  obtain ⟨t, x, h1, h2, h3, h4⟩ := y
  exact ⟨t, .int (i : Nat), x, h1, h2, h3, rfl, h4 xs q⟩
end Dw

/-! enumerate(zip(xs, ys)) -/
namespace Dw
open PySem PySem.Spec PyProof.Rows L2
open Sem (wp)
/-- a zip, whatever it has given out -/
abbrev ZipO (h : Heap) (z TI TO : Addr) (f0 : Value) (f : Bool) : Prop :=
  h.get? z = some { cls := .type "zip", dict := none, data := .fields #[f0, .bool f, .bool false, .ref TI, .ref TO], slots := #[] }
def Out (f0 : Value) : Prop := f0 = .none ∨ ∃ T : Nat, f0 = rawInt T
section
variable {prog : Program} {w : World} {A : Around} {E : Value → Shared → Prop} {s : Shared}
theorem alive_any {a : Addr} {Q : Option Obj → Shared → Prop} (h : Q (s.heap.get? a) s) : wpAny (model prog w) A (loadIfAlive a) Q E s := fun _ _ _ => h
theorem free_zip {z TI TO : Addr} {f0 : Value} {f : Bool} {Q : Bool → Shared → Prop} (hz : ZipO s.heap z TI TO f0 f) (ho : Out f0) (ht : Q true s)
    (hf : ∀ g1, ZipO g1 z TI TO f0 true → Heap.SameBut z s.heap g1 → Q false { s with heap := g1 }) : wpAny (model prog w) A (Builtin.SmallTypes.ownedTupleIsFree (.ref z)) Q E s := by
  unfold Builtin.SmallTypes.ownedTupleIsFree
  rcases ho with rfl | ⟨T, rfl⟩
  · exact wpAny_bind (wpAny_field hz rfl (x := .none) rfl (wpAny_pure ht))
  · refine wpAny_bind (wpAny_field hz rfl (x := rawInt T) rfl ?_)
    show wpAny _ _ (loadIfAlive (Int.toNat (T : Int)) >>= _) _ _ _
    rw [Int.toNat_natCast]
    refine wpAny_bind (alive_any ?_)
    cases s.heap.get? T with
    | none =>
      simp only [Option.isNone_none, if_true]
      exact wpAny_pure ht
    | some ob =>
      simp only [Option.isNone_some, Bool.false_eq_true, if_false]
      refine wpAny_bind (wpAny_field hz rfl (x := .bool f) rfl ?_)
      cases f with
      | true =>
        rw [if_neg (show ¬ (Value.bool true != Value.bool true) = true from Bool.false_ne_true)]
        exact wpAny_pure (hf s.heap hz (Heap.SameBut.refl _ _))
      | false =>
        rw [if_pos (show (Value.bool false != Value.bool true) = true from rfl)]
        exact wpAny_bind (wpAny_setField_rec hz (by simp) fun g1 hz1 hs1 => wpAny_pure (hf g1 hz1 hs1))
theorem zip_any {z TI TO i1 i2 l1 l2 : Addr} {k : Nat} {xs ys : Array Value} {x y a b f0 : Value} {f : Bool} {Q : Value → Shared → Prop} (D : ZipApart z TI TO i1 i2 l1 l2)
    (hz : ZipO s.heap z TI TO f0 f) (ho : Out f0) (hTI : IsPair s.heap TI (.ref i1) (.ref i2)) (hTO : IsPair s.heap TO a b)
    (p1 : s.heap.IsListIter i1 l1 k) (p2 : s.heap.IsListIter i2 l2 k) (q1 : s.heap.IsList l1 xs) (q2 : s.heap.IsList l2 ys) (hx : xs[k]? = some x) (hy : ys[k]? = some y)
    (hQ : ∀ h2 g0 g a' b', Out g0 → ZipO h2 z TI TO g0 g → IsPair h2 TO a' b' → h2.IsListIter i1 l1 (k + 1) → h2.IsListIter i2 l2 (k + 1) → IsPair h2 s.heap.objs.size x y → h2.objs.size = s.heap.objs.size + 1 →
      (∀ c o, c ≠ z → c ≠ TO → c ≠ i1 → c ≠ i2 → s.heap.get? c = some o → h2.get? c = some o) → Q (.ref s.heap.objs.size) { s with heap := h2 }) :
    wpAny (model prog w) A (Builtin.«zip.__next__» ⟨[.ref z], []⟩) (fun fin s2 => ∃ v, fin = .done (.ret v) ∧ Q v s2) E s := by
  show wpAny _ _ (field (.ref z) 2 >>= _) _ _ _
  refine wpAny_bind (wpAny_field hz rfl (x := .bool false) rfl ?_)
  show wpAny _ _ (field (.ref z) 3 >>= _) _ _ _
  refine wpAny_bind (wpAny_field hz rfl (x := .ref TI) rfl (wpAny_bind (wpAny_seqItems hTI rfl ?_)))
  show wpAny _ _ (Builtin.SmallTypes.ownedTupleIsFree (.ref z) >>= _) _ _ _
  refine wpAny_bind (free_zip hz ho ?_ fun g1 hz1 hs1 => ?_)
  · simp only [if_true]
    refine wpAny_bind (wpAny_rule (wpAny_bind (wpAny_field hz rfl (x := .ref TO) rfl (wpAny_bind (wpAny_setField_rec hz (by simp) fun g1 hz1 hs1 => ?_)))))
    replace hz1 : ZipO g1 z TI TO .ellipsis f := hz1
    refine wpAny_bind ?_
    simp only [List.zipIdx_cons, List.zipIdx_nil, List.forIn_cons, List.forIn_nil]
    refine wpAny_bind (wpAny_bind (wpAny_onRaise ?_))
    show wpAny _ _ (Builtin.SmallTypes.nextOf (.ref i1) >>= _) _ _ _
    refine wpAny_bind (wpAny_nextOf_list_item (p1.extBut hs1.extBut D.i1z) (q1.extBut hs1.extBut D.l1z) hx fun g2 p12 hs2 => wpAny_pure ?_)
    have t2 : IsPair g2 TO a b := hs2.extBut _ _ D.TOi1 (hs1.extBut _ _ D.TOz hTO)
    refine wpAny_bind (wpAny_seqItems t2 rfl (wpAny_bind (wpAny_updateSeq_pair t2 fun g3 t3 hs3 => ?_)))
    replace t3 : IsPair g3 TO x b := t3
    refine wpAny_bind (wpAny_letGo (wpAny_pure (wpAny_bind (wpAny_bind (wpAny_onRaise ?_)))))
    show wpAny _ _ (Builtin.SmallTypes.nextOf (.ref i2) >>= _) _ _ _
    have p22 := ((p2.extBut hs1.extBut D.i2z).extBut hs2.extBut D.i12.symm).extBut hs3.extBut D.TOi2.symm
    have q22 := ((q2.extBut hs1.extBut D.l2z).extBut hs2.extBut D.l2i1).extBut hs3.extBut D.l2TO
    refine wpAny_bind (wpAny_nextOf_list_item p22 q22 hy fun g4 p24 hs4 => wpAny_pure ?_)
    have t4 : IsPair g4 TO x b := hs4.extBut _ _ D.TOi2 t3
    refine wpAny_bind (wpAny_seqItems t4 rfl (wpAny_bind (wpAny_updateSeq_pair t4 fun g5 t5 hs5 => ?_)))
    replace t5 : IsPair g5 TO x y := t5
    refine wpAny_bind (wpAny_letGo (wpAny_pure (wpAny_pure (wpAny_bind (wpAny_seqItems t5 rfl (wpAny_bind (wpAny_newTuple ?_)))))))
    have sz5 : g5.objs.size = s.heap.objs.size := by rw [hs5.1, hs4.1, hs3.1, hs2.1, hs1.1]
    have z5 : ZipO g5 z TI TO .ellipsis f := hs5.extBut _ _ D.TOz.symm (hs4.extBut _ _ D.i2z.symm (hs3.extBut _ _ D.TOz.symm (hs2.extBut _ _ D.i1z.symm hz1)))
    have keep5 : ∀ c o, c ≠ z → c ≠ TO → c ≠ i1 → c ≠ i2 → s.heap.get? c = some o → g5.get? c = some o := fun c o c1 c2 c3 c4 e =>
      hs5.extBut _ _ c2 (hs4.extBut _ _ c4 (hs3.extBut _ _ c2 (hs2.extBut _ _ c3 (hs1.extBut _ _ c1 e))))
    have p15 : g5.IsListIter i1 l1 (k + 1) := ((p12.extBut hs3.extBut D.TOi1.symm).extBut hs4.extBut D.i12).extBut hs5.extBut D.TOi1.symm
    have p25 : g5.IsListIter i2 l2 (k + 1) := p24.extBut hs5.extBut D.TOi2.symm
    have zlt : z < g5.objs.size := Heap.lt_size z5
    show wpAny _ _ (Builtin.SmallTypes.ownedTupleHandOut (.ref z) (.ref g5.objs.size) >>= _) _ _ _
    refine wpAny_bind ?_
    unfold Builtin.SmallTypes.ownedTupleHandOut
    have z6 : ZipO (g5.push { cls := .type "tuple", data := .seq #[x, y] }) z TI TO .ellipsis f := Heap.get?_push_of_some _ z5
    refine wpAny_bind (wpAny_setField_rec z6 (by simp) fun g7 z7 hs7 => ?_)
    replace z7 : ZipO g7 z TI TO (rawInt g5.objs.size) f := z7
    refine wpAny_setField_rec z7 (by simp) fun g8 z8 hs8 => ?_
    replace z8 : ZipO g8 z TI TO (rawInt g5.objs.size) false := z8
    have up : ∀ c o, c ≠ z → g5.get? c = some o → g8.get? c = some o := fun c o c1 e => hs8.extBut _ _ c1 (hs7.extBut _ _ c1 (Heap.get?_push_of_some _ e))
    have t8 : IsPair g8 g5.objs.size x y := hs8.extBut _ _ (Nat.ne_of_gt zlt) (hs7.extBut _ _ (Nat.ne_of_gt zlt) (Heap.get?_push_size _ rfl))
    have sz8 : g8.objs.size = g5.objs.size + 1 := by rw [hs8.1, hs7.1, Heap.size_push]
    rw [sz5] at z8 t8 sz8
    refine wpAny_pure ⟨_, rfl, ?_⟩
    show Q (.ref g5.objs.size) _
    rw [sz5]
    exact hQ g8 _ _ _ _ (.inr ⟨_, rfl⟩) z8 (up _ _ D.TOz t5) (p15.at fun o e => up _ o D.i1z e) (p25.at fun o e => up _ o D.i2z e) t8 sz8 fun c o c1 c2 c3 c4 e => up c o c1 (keep5 c o c1 c2 c3 c4 e)
  · simp only [Bool.false_eq_true, if_false]
    refine wpAny_bind ?_
    rw [← Array.forIn_toList]
    simp only [List.forIn_cons, List.forIn_nil]
    refine wpAny_bind (wpAny_bind (wpAny_holding ?_))
    show wpAny _ _ (Builtin.SmallTypes.nextOf (.ref i1) >>= _) _ _ _
    refine wpAny_bind (wpAny_nextOf_list_item (s := { s with heap := g1 }) (p1.extBut hs1.extBut D.i1z) (q1.extBut hs1.extBut D.l1z) hx fun g2 p12 hs2 => wpAny_pure (wpAny_pure ?_))
    refine wpAny_bind (wpAny_bind (wpAny_holding ?_))
    show wpAny _ _ (Builtin.SmallTypes.nextOf (.ref i2) >>= _) _ _ _
    have p22 := (p2.extBut hs1.extBut D.i2z).extBut hs2.extBut D.i12.symm
    have q22 := (q2.extBut hs1.extBut D.l2z).extBut hs2.extBut D.l2i1
    refine wpAny_bind (wpAny_nextOf_list_item (s := { s with heap := g2 }) p22 q22 hy fun g3 p23 hs3 => wpAny_pure (wpAny_pure (wpAny_pure ?_)))
    show wpAny _ _ (newTuple [x, y] >>= _) _ _ _
    refine wpAny_bind (wpAny_newTuple ?_)
    have sz3 : g3.objs.size = s.heap.objs.size := by rw [hs3.1, hs2.1, hs1.1]
    have z3 : ZipO g3 z TI TO f0 true := hs3.extBut _ _ D.i2z.symm (hs2.extBut _ _ D.i1z.symm hz1)
    have keep3 : ∀ c o, c ≠ z → c ≠ i1 → c ≠ i2 → s.heap.get? c = some o → g3.get? c = some o := fun c o c1 c2 c3 e => hs3.extBut _ _ c3 (hs2.extBut _ _ c2 (hs1.extBut _ _ c1 e))
    have p13 : g3.IsListIter i1 l1 (k + 1) := p12.extBut hs3.extBut D.i12
    refine wpAny_pure ⟨_, rfl, ?_⟩
    show Q (.ref g3.objs.size) _
    have t4 : IsPair (g3.push { cls := .type "tuple", data := .seq #[x, y] }) g3.objs.size x y := Heap.get?_push_size _ rfl
    have sz4 : (g3.push { cls := .type "tuple", data := .seq #[x, y] }).objs.size = g3.objs.size + 1 := Heap.size_push ..
    rw [sz3] at t4 sz4 ⊢
    exact hQ _ _ _ _ _ ho (Heap.get?_push_of_some _ z3) (Heap.get?_push_of_some _ (keep3 _ _ D.TOz D.TOi1 D.TOi2 hTO)) (p13.at fun o e => Heap.get?_push_of_some _ e) (p23.at fun o e => Heap.get?_push_of_some _ e) t4 sz4 fun c o c1 _ c2 c3 e => Heap.get?_push_of_some _ (keep3 c o c1 c2 c3 e)
theorem zip_stop {z TI TO i1 i2 l1 l2 : Addr} {k : Nat} {xs ys : Array Value} {a b f0 : Value} {f : Bool} {Q : Fin → Shared → Prop} (hh : A.handled = none) (D : ZipApart z TI TO i1 i2 l1 l2)
    (hz : ZipO s.heap z TI TO f0 f) (ho : Out f0) (hTI : IsPair s.heap TI (.ref i1) (.ref i2)) (hTO : IsPair s.heap TO a b)
    (p1 : s.heap.IsListIter i1 l1 k) (p2 : s.heap.IsListIter i2 l2 k) (q1 : s.heap.IsList l1 xs) (q2 : s.heap.IsList l2 ys) (hend : xs[k]? = none ∨ ys[k]? = none)
    (hE : ∀ h2 e, (∀ c o, c ≠ z → c ≠ TO → c ≠ i1 → c ≠ i2 → s.heap.get? c = some o → h2.get? c = some o) → (∃ o, h2.get? e = some o ∧ o.cls = .type "StopIteration") → E (.ref e) { s with heap := h2 }) :
    wpAny (model prog w) A (Builtin.«zip.__next__» ⟨[.ref z], []⟩) Q E s := by
  show wpAny _ _ (field (.ref z) 2 >>= _) _ _ _
  refine wpAny_bind (wpAny_field hz rfl (x := .bool false) rfl ?_)
  show wpAny _ _ (field (.ref z) 3 >>= _) _ _ _
  refine wpAny_bind (wpAny_field hz rfl (x := .ref TI) rfl (wpAny_bind (wpAny_seqItems hTI rfl ?_)))
  show wpAny _ _ (Builtin.SmallTypes.ownedTupleIsFree (.ref z) >>= _) _ _ _
  refine wpAny_bind (free_zip hz ho ?_ fun g1 hz1 hs1 => ?_)
  · simp only [if_true]
    refine wpAny_bind (wpAny_rule (wpAny_bind (wpAny_field hz rfl (x := .ref TO) rfl (wpAny_bind (wpAny_setField_rec hz (by simp) fun g1 hz1 hs1 => ?_)))))
    replace hz1 : ZipO g1 z TI TO .ellipsis f := hz1
    refine wpAny_bind ?_
    simp only [List.zipIdx_cons, List.zipIdx_nil, List.forIn_cons, List.forIn_nil]
    refine wpAny_bind (wpAny_bind (wpAny_onRaise ?_))
    show wpAny _ _ (Builtin.SmallTypes.nextOf (.ref i1) >>= _) _ _ _
    cases hx : xs[k]? with
    | none =>
      refine wpAny_bind (wpAny_nextOf_list_end hh (p1.extBut hs1.extBut D.i1z) (q1.extBut hs1.extBut D.l1z) hx fun g2 e hs2 he => ?_)
      obtain ⟨oe, hoe, hce⟩ := he
      have hz2 : ZipO g2 z TI TO .ellipsis f := hs2 _ _ D.i1z.symm hz1
      have nez : e ≠ z := fun q => by subst q; rw [hz2] at hoe; cases hoe; simp at hce
      exact wpAny_setField_rec hz2 (by simp) fun g3 _ hs3 => hE g3 e (fun c o c1 _ c3 _ q => hs3.extBut _ _ c1 (hs2 _ _ c3 (hs1.extBut _ _ c1 q))) ⟨oe, hs3.extBut _ _ nez hoe, hce⟩
    | some x =>
      have hy : ys[k]? = none := by rcases hend with h | h; (rw [hx] at h; cases h); exact h
      refine wpAny_bind (wpAny_nextOf_list_item (p1.extBut hs1.extBut D.i1z) (q1.extBut hs1.extBut D.l1z) hx fun g2 p12 hs2 => wpAny_pure ?_)
      have t2 : IsPair g2 TO a b := hs2.extBut _ _ D.TOi1 (hs1.extBut _ _ D.TOz hTO)
      refine wpAny_bind (wpAny_seqItems t2 rfl (wpAny_bind (wpAny_updateSeq_pair t2 fun g3 t3 hs3 => wpAny_bind (wpAny_letGo (wpAny_pure (wpAny_bind (wpAny_bind (wpAny_onRaise ?_))))))))
      show wpAny _ _ (Builtin.SmallTypes.nextOf (.ref i2) >>= _) _ _ _
      have p22 := ((p2.extBut hs1.extBut D.i2z).extBut hs2.extBut D.i12.symm).extBut hs3.extBut D.TOi2.symm
      have q22 := ((q2.extBut hs1.extBut D.l2z).extBut hs2.extBut D.l2i1).extBut hs3.extBut D.l2TO
      refine wpAny_bind (wpAny_nextOf_list_end hh p22 q22 hy fun g4 e hs4 he => ?_)
      obtain ⟨oe, hoe, hce⟩ := he
      have hz4 : ZipO g4 z TI TO .ellipsis f := hs4 _ _ D.i2z.symm (hs3.extBut _ _ D.TOz.symm (hs2.extBut _ _ D.i1z.symm hz1))
      have nez : e ≠ z := fun q => by subst q; rw [hz4] at hoe; cases hoe; simp at hce
      exact wpAny_setField_rec hz4 (by simp) fun g5 _ hs5 => hE g5 e (fun c o c1 c2 c3 c4 q => hs5.extBut _ _ c1 (hs4 _ _ c4 (hs3.extBut _ _ c2 (hs2.extBut _ _ c3 (hs1.extBut _ _ c1 q))))) ⟨oe, hs5.extBut _ _ nez hoe, hce⟩
  · simp only [Bool.false_eq_true, if_false]
    refine wpAny_bind ?_
    rw [← Array.forIn_toList]
    simp only [List.forIn_cons, List.forIn_nil]
    refine wpAny_bind (wpAny_bind (wpAny_holding ?_))
    show wpAny _ _ (Builtin.SmallTypes.nextOf (.ref i1) >>= _) _ _ _
    cases hx : xs[k]? with
    | none =>
      exact wpAny_bind (wpAny_nextOf_list_end (s := { s with heap := g1 }) hh (p1.extBut hs1.extBut D.i1z) (q1.extBut hs1.extBut D.l1z) hx fun g2 e hs2 he => hE g2 e (fun c o c1 _ c3 _ q => hs2 _ _ c3 (hs1.extBut _ _ c1 q)) he)
    | some x =>
      have hy : ys[k]? = none := by rcases hend with h | h; (rw [hx] at h; cases h); exact h
      refine wpAny_bind (wpAny_nextOf_list_item (s := { s with heap := g1 }) (p1.extBut hs1.extBut D.i1z) (q1.extBut hs1.extBut D.l1z) hx fun g2 p12 hs2 => wpAny_pure (wpAny_pure ?_))
      refine wpAny_bind (wpAny_bind (wpAny_holding ?_))
      show wpAny _ _ (Builtin.SmallTypes.nextOf (.ref i2) >>= _) _ _ _
      have p22 := (p2.extBut hs1.extBut D.i2z).extBut hs2.extBut D.i12.symm
      have q22 := (q2.extBut hs1.extBut D.l2z).extBut hs2.extBut D.l2i1
      exact wpAny_bind (wpAny_nextOf_list_end (s := { s with heap := g2 }) hh p22 q22 hy fun g3 e hs3 he => hE g3 e (fun c o c1 _ c3 c4 q => hs3 _ _ c4 (hs2.extBut _ _ c3 (hs1.extBut _ _ c1 q))) he)
/-- one turn of an enumerate, whatever it walks -/
theorem enum_any {e it : Addr} {i : Int} {old : Value} {R : Value → Heap → Prop} {Q : Value → Shared → Prop} (he : IsEnum s.heap e it i old)
    (inner : ∀ Qi : Value → Shared → Prop, (∀ x g1 tk, IsEnum g1 e it i old → R x g1 → Qi x { s with heap := g1, toks := tk }) → wpAny (model prog w) A (Builtin.SmallTypes.nextOf (.ref it)) Qi E s)
    (hQ : ∀ x g1 g2 tk, R x g1 → IsEnumOut g2 e it (i + 1) x g1.objs.size → g2.get? g1.objs.size = some { cls := .type "tuple", data := .seq #[.int i tk, x] } → g2.objs.size = g1.objs.size + 1 →
      (∀ b o, b ≠ e → g1.get? b = some o → g2.get? b = some o) → Q (.ref g1.objs.size) { s with heap := g2, toks := tk + 1 }) :
    wpAny (model prog w) A (Builtin.«enumerate.__next__» ⟨[.ref e], []⟩) (fun fin s2 => ∃ v, fin = .done (.ret v) ∧ Q v s2) E s := by
  obtain ⟨hp, gens, drawn, toks, outs⟩ := s
  show wpAny _ _ (field (.ref e) 2 >>= _) _ _ _
  refine wpAny_bind (wpAny_field he rfl (x := .ref it) rfl (wpAny_bind (inner _ fun x g1 tk he1 hR => ?_)))
  show wpAny _ _ (field (.ref e) 3 >>= _) _ _ ⟨g1, gens, drawn, tk, outs⟩
  refine wpAny_bind (wpAny_field he1 rfl (x := rawInt i) rfl ?_)
  show wpAny _ _ (field (.ref e) 4 >>= _) _ _ ⟨g1, gens, drawn, tk, outs⟩
  refine wpAny_bind (wpAny_field he1 rfl (x := .none) rfl ?_)
  show wpAny _ _ (mkInt i >>= _) _ _ ⟨g1, gens, drawn, tk, outs⟩
  refine wpAny_bind (wpAny_mkInt ?_)
  show wpAny _ _ (setField (.ref e) 3 (rawInt (i + 1)) >>= _) _ _ ⟨g1, gens, drawn, tk + 1, outs⟩
  refine wpAny_bind (wpAny_setField_rec he1 (by simp) fun g2 he2 hs2 => ?_)
  replace hs2 : Heap.SameBut e g1 g2 := hs2
  replace he2 : IsEnum g2 e it (i + 1) old := he2
  show wpAny _ _ (setField (.ref e) 4 .none >>= _) _ _ ⟨g2, gens, drawn, tk + 1, outs⟩
  refine wpAny_bind (wpAny_setField_rec he2 (by simp) fun g3 he3 hs3 => ?_)
  replace hs3 : Heap.SameBut e g2 g3 := hs3
  replace he3 : IsEnum g3 e it (i + 1) old := he3
  show wpAny _ _ (newTuple [.int i tk, x] >>= _) _ _ ⟨g3, gens, drawn, tk + 1, outs⟩
  refine wpAny_bind (wpAny_newTuple ?_)
  have he4 : IsEnum (g3.push { cls := .type "tuple", data := .seq #[.int i tk, x] }) e it (i + 1) old := Heap.get?_push_of_some _ he3
  have sz3 : g3.objs.size = g1.objs.size := by rw [hs3.1, hs2.1]
  have elt : e < g1.objs.size := Heap.lt_size he1
  have t4 : (g3.push { cls := .type "tuple", data := .seq #[.int i tk, x] }).get? g1.objs.size = some { cls := .type "tuple", data := .seq #[.int i tk, x] } := by rw [← sz3]; exact Heap.get?_push_size _ rfl
  have sz4 : (g3.push { cls := .type "tuple", data := .seq #[.int i tk, x] }).objs.size = g1.objs.size + 1 := by rw [Heap.size_push, sz3]
  have k4 : ∀ b o, b ≠ e → g1.get? b = some o → (g3.push { cls := .type "tuple", data := .seq #[.int i tk, x] }).get? b = some o := fun b o n hb => Heap.get?_push_of_some _ (hs3.extBut b o n (hs2.extBut b o n hb))
  generalize g3.push { cls := .type "tuple", data := .seq #[.int i tk, x] } = g4 at he4 t4 sz4 k4
  show wpAny _ _ (Builtin.SmallTypes.ownedTupleIsFree (.ref e) >>= _) _ _ ⟨g4, gens, drawn, tk + 1, outs⟩
  rw [sz3]
  refine wpAny_bind ?_
  unfold Builtin.SmallTypes.ownedTupleIsFree
  refine wpAny_bind (wpAny_field he4 rfl (x := .none) rfl (wpAny_pure ?_))
  simp only [if_true]
  refine wpAny_bind (wpAny_rule (wpAny_bind (wpAny_field he4 rfl (x := old) rfl (wpAny_bind (wpAny_setField_rec he4 (by simp) fun g5 he5 hs5 => ?_)))))
  replace hs5 : Heap.SameBut e g4 g5 := hs5
  replace he5 : IsEnum g5 e it (i + 1) x := he5
  show wpAny _ _ (Builtin.SmallTypes.ownedTupleHandOut (.ref e) (.ref g1.objs.size) >>= _) _ _ ⟨g5, gens, drawn, tk + 1, outs⟩
  refine wpAny_bind ?_
  unfold Builtin.SmallTypes.ownedTupleHandOut
  refine wpAny_bind (wpAny_setField_rec he5 (by simp) fun g6 he6 hs6 => ?_)
  replace hs6 : Heap.SameBut e g5 g6 := hs6
  replace he6 : IsEnumOut g6 e it (i + 1) x g1.objs.size := he6
  refine wpAny_setField_rec he6 (by simp) fun g7 he7 hs7 => wpAny_bind (wpAny_letGo (wpAny_pure ⟨_, rfl, ?_⟩))
  replace hs7 : Heap.SameBut e g6 g7 := hs7
  replace he7 : IsEnumOut g7 e it (i + 1) x g1.objs.size := he7
  have k7 : ∀ b o, b ≠ e → g4.get? b = some o → g7.get? b = some o := fun b o n hb => hs7.extBut b o n (hs6.extBut b o n (hs5.extBut b o n hb))
  exact hQ x g1 g7 tk hR he7 (k7 _ _ (Nat.ne_of_gt elt) t4) (by rw [hs7.1, hs6.1, hs5.1, sz4]) fun b o n hb => k7 b o n (k4 b o n hb)
/-- what a zip and its cells look like ahead of turn i -/
def ZipAt (z TI TO i1 i2 a b : Addr) (i : Nat) (h : Heap) : Prop := (∃ f0 f, Out f0 ∧ ZipO h z TI TO f0 f) ∧ IsPair h TI (.ref i1) (.ref i2) ∧ (∃ x y, IsPair h TO x y) ∧ h.IsListIter i1 a i ∧ h.IsListIter i2 b i
theorem zip_nextOf {z TI TO i1 i2 l1 l2 : Addr} {k : Nat} {xs ys : Array Value} {x y : Value} {Q : Value → Shared → Prop} (D : ZipApart z TI TO i1 i2 l1 l2) (st : ZipAt z TI TO i1 i2 l1 l2 k s.heap)
    (q1 : s.heap.IsList l1 xs) (q2 : s.heap.IsList l2 ys) (hx : xs[k]? = some x) (hy : ys[k]? = some y)
    (hQ : ∀ h2, ZipAt z TI TO i1 i2 l1 l2 (k + 1) h2 → IsPair h2 s.heap.objs.size x y → h2.objs.size = s.heap.objs.size + 1 →
      (∀ c o, c ≠ z → c ≠ TO → c ≠ i1 → c ≠ i2 → s.heap.get? c = some o → h2.get? c = some o) → Q (.ref s.heap.objs.size) { s with heap := h2 }) :
    wpAny (model prog w) A (Builtin.SmallTypes.nextOf (.ref z)) Q E s := by
  obtain ⟨⟨f0, f, ho, hz⟩, hTI, ⟨u, v, hTO⟩, p1, p2⟩ := st
  have hT : s.TypeIs (.ref z) "zip" := ⟨_, hz, rfl⟩
  unfold Builtin.SmallTypes.nextOf
  refine wpAny_bind (wpAny_callSpecial?_slot (name := Str.ofString "__next__") hT F.slot_zip_next (wpAny_call_entry F.slot_zip_next hT F.entry_zip_next ?_ (F.args_zip_next_1 _)))
  refine zip_any D hz ho hTI hTO p1 p2 q1 q2 hx hy fun h2 g0 g a2 b2 o1 z1 t1 r1 r2 pr sz kp => wpAny_pure (hQ h2 ⟨⟨g0, g, o1, z1⟩, kp _ _ D.TIz D.TITO D.TIi1 D.TIi2 hTI, ⟨a2, b2, t1⟩, r1, r2⟩ pr sz kp)
theorem ez_next {e z TI TO i1 i2 l1 l2 : Addr} {k : Nat} {xs ys : Array Value} {x y old : Value} {Q : Option Value → Shared → Prop} (D : ZipApart z TI TO i1 i2 l1 l2) (he : IsEnum s.heap e z k old) (st : ZipAt z TI TO i1 i2 l1 l2 k s.heap)
    (ne : e ≠ z ∧ e ≠ TI ∧ e ≠ TO ∧ e ≠ i1 ∧ e ≠ i2) (q1 : s.heap.IsList l1 xs) (q2 : s.heap.IsList l2 ys) (hx : xs[k]? = some x) (hy : ys[k]? = some y)
    (hQ : ∀ h1 h2 tk, IsPair h1 s.heap.objs.size x y → h1.objs.size = s.heap.objs.size + 1 → (∀ c o, c ≠ z → c ≠ TO → c ≠ i1 → c ≠ i2 → s.heap.get? c = some o → h1.get? c = some o) →
      IsEnumOut h2 e z ((k : Int) + 1) (.ref s.heap.objs.size) (s.heap.objs.size + 1) → ZipAt z TI TO i1 i2 l1 l2 (k + 1) h2 → h2.get? (s.heap.objs.size + 1) = some { cls := .type "tuple", data := .seq #[.int k tk, .ref s.heap.objs.size] } →
      (∀ c o, c ≠ e → h1.get? c = some o → h2.get? c = some o) → Q (some (.ref (s.heap.objs.size + 1))) { s with heap := h2, toks := tk + 1 }) :
    wpAny (model prog w) A (pyNext (.ref e)) Q E s := by
  have hT : s.TypeIs (.ref e) "enumerate" := ⟨_, he, rfl⟩
  unfold pyNext
  refine wpAny_bind (wpAny_attempt (wpAny_callSpecial?_slot (name := Str.ofString "__next__") hT F.slot_enumerate_next (wpAny_call_entry F.slot_enumerate_next hT F.entry_enumerate_next ?_ (F.args_enumerate_next_1 _))))
  refine enum_any (R := fun v g1 => v = .ref s.heap.objs.size ∧ ZipAt z TI TO i1 i2 l1 l2 (k + 1) g1 ∧ IsPair g1 s.heap.objs.size x y ∧ g1.objs.size = s.heap.objs.size + 1 ∧ ∀ c o, c ≠ z → c ≠ TO → c ≠ i1 → c ≠ i2 → s.heap.get? c = some o → g1.get? c = some o) he (fun Qi hi => ?_) fun v g1 g2 tk hR h1 h2 h3 h4 => ?_
  · exact zip_nextOf D st q1 q2 hx hy fun h2 a1 a2 a3 a4 => hi _ h2 s.toks (a4 _ _ ne.1 ne.2.2.1 ne.2.2.2.1 ne.2.2.2.2 he) ⟨rfl, a1, a2, a3, a4⟩
  · obtain ⟨rfl, ⟨⟨f0, f, o1, z1⟩, t1, ⟨u, v, t2⟩, r1, r2⟩, pr, sz, kp⟩ := hR
    rw [sz] at h1 h2 ⊢
    exact wpAny_pure (hQ g1 g2 tk pr sz kp h1 ⟨⟨f0, f, o1, h4 _ _ ne.1.symm z1⟩, h4 _ _ ne.2.1.symm t1, ⟨u, v, h4 _ _ ne.2.2.1.symm t2⟩, r1.at fun o q => h4 _ o ne.2.2.2.1.symm q, r2.at fun o q => h4 _ o ne.2.2.2.2.symm q⟩ h2 h4)
theorem ez_stop {e z TI TO i1 i2 l1 l2 : Addr} {k : Nat} {xs ys : Array Value} {old : Value} {Q : Option Value → Shared → Prop} (hh : A.handled = none) (D : ZipApart z TI TO i1 i2 l1 l2) (he : IsEnum s.heap e z k old) (st : ZipAt z TI TO i1 i2 l1 l2 k s.heap)
    (q1 : s.heap.IsList l1 xs) (q2 : s.heap.IsList l2 ys) (hend : xs[k]? = none ∨ ys[k]? = none)
    (hQ : ∀ h2, (∀ c o, c ≠ z → c ≠ TO → c ≠ i1 → c ≠ i2 → s.heap.get? c = some o → h2.get? c = some o) → Q none { s with heap := h2 }) : wpAny (model prog w) A (pyNext (.ref e)) Q E s := by
  obtain ⟨⟨f0, f, ho, hz⟩, hTI, ⟨u, v, hTO⟩, p1, p2⟩ := st
  have hT : s.TypeIs (.ref e) "enumerate" := ⟨_, he, rfl⟩
  have hZ : s.TypeIs (.ref z) "zip" := ⟨_, hz, rfl⟩
  unfold pyNext
  refine wpAny_bind (wpAny_attempt (wpAny_callSpecial?_slot (name := Str.ofString "__next__") hT F.slot_enumerate_next (wpAny_call_entry F.slot_enumerate_next hT F.entry_enumerate_next ?_ (F.args_enumerate_next_1 _))))
  show wpAny _ _ (field (.ref e) 2 >>= _) _ _ _
  refine wpAny_bind (wpAny_field he rfl (x := .ref z) rfl (wpAny_bind ?_))
  unfold Builtin.SmallTypes.nextOf
  refine wpAny_bind (wpAny_callSpecial?_slot (name := Str.ofString "__next__") hZ F.slot_zip_next (wpAny_call_entry F.slot_zip_next hZ F.entry_zip_next ?_ (F.args_zip_next_1 _)))
  refine zip_stop hh D hz ho hTI hTO p1 p2 q1 q2 hend fun h2 x kp ⟨o, hx, hc⟩ => ?_
  exact wpAny_bind (wpAny_isInstance (T := "StopIteration") (b := true) ⟨o, hx, hc⟩ isSubtype_stop (wpAny_pure (hQ _ kp)))
end
/-- the lists at a and b, their items in new pairs, each in a new pair with its place -/
def Itez (K : PySem.W.Frag) (a b : Addr) : It :=
  ⟨fun i H => ∃ (xs ys : List V) (x y : V), SqL K H a xs ∧ SqL K H b ys ∧ xs[i]? = some x ∧ ys[i]? = some y,
    fun i H v H' => ∃ T U x y, v = .ref U ∧ H T = none ∧ H U = none ∧ U ≠ T ∧ H' = upd (upd H T (.tup [x, y])) U (.tup [.int (i : Nat), .ref T]) ∧ (∀ xs, SqL K H a xs → xs[i]? = some x) ∧ ∀ ys, SqL K H b ys → ys[i]? = some y,
    fun i H => ∃ xs ys : List V, SqL K H a xs ∧ SqL K H b ys ∧ (xs.length ≤ i ∨ ys.length ≤ i)⟩
theorem turn_ez {P : Program} {w : World} {K : PySem.W.Frag} {elts : List Expr} {kk : Nat} {tpos : Pos} {a b e z TI TO i1 i2 : Addr} (D : ZipApart z TI TO i1 i2 a b) (ne : e ≠ z ∧ e ≠ TI ∧ e ≠ TO ∧ e ≠ i1 ∧ e ≠ i2) :
    Turn P w K (.Tuple elts kk tpos) (Itez K a b) [e, z, TI, TO, i1, i2] e (fun i h => (∃ old, IsEnum h e z ((i : Nat) : Int) old) ∧ ZipAt z TI TO i1 i2 a b i h) where
  mem := List.mem_cons_self
  obj := fun i h st c hc => by
    obtain ⟨⟨old, he⟩, ⟨f0, f, _, hz⟩, hTI, ⟨x, y, hTO⟩, ⟨o1, e1, _, d1⟩, ⟨o2, e2, _, d2⟩⟩ := st
    have hc2 : c = e ∨ c = z ∨ c = TI ∨ c = TO ∨ c = i1 ∨ c = i2 := by simpa using hc
    rcases hc2 with q | q | q | q | q | q <;> rw [q]
    · exact ⟨_, he, fun v q => nomatch q⟩
    · exact ⟨_, hz, fun v q => nomatch q⟩
    · exact ⟨_, hTI, fun v q => nomatch q⟩
    · exact ⟨_, hTO, fun v q => nomatch q⟩
    · exact ⟨o1, e1, fun v q => by rw [d1] at q; cases q⟩
    · exact ⟨o2, e2, fun v q => by rw [d2] at q; cases q⟩
  keep := fun i h h2 st k => by
    obtain ⟨⟨old, he⟩, ⟨f0, f, ho, hz⟩, hTI, ⟨x, y, hTO⟩, r1, r2⟩ := st
    exact ⟨⟨old, k e (by simp) _ he⟩, ⟨f0, f, ho, k z (by simp) _ hz⟩, k TI (by simp) _ hTI, ⟨x, y, k TO (by simp) _ hTO⟩, r1.at fun o q => k i1 (by simp) o q, r2.at fun o q => k i2 (by simp) o q⟩
  item := by
    intro X hP hw hK hc i pins s σ H E I hf st hg
    subst hP hw hK
    obtain ⟨⟨old, he⟩, hZ⟩ := st
    obtain ⟨xs, ys, x, y, hqx, hqy, hx, hy⟩ := hg
    obtain ⟨its, rv, p, _⟩ := I.list hqx
    obtain ⟨its2, rv2, p2, _⟩ := I.list hqy
    obtain ⟨u, hu, ru⟩ := rv.get hx
    obtain ⟨u2, hu2, ru2⟩ := rv2.get hy
    have hlt : ∀ c ∈ [e, z, TI, TO, i1, i2], c < s.heap.objs.size := fun c hcm => by
      obtain ⟨_, ⟨f0, f, _, hz⟩, hTI, ⟨x, y, hTO⟩, ⟨_, e1, _⟩, ⟨_, e2, _⟩⟩ : True ∧ ZipAt z TI TO i1 i2 a b i s.heap := ⟨trivial, hZ⟩
      have hc2 : c = e ∨ c = z ∨ c = TI ∨ c = TO ∨ c = i1 ∨ c = i2 := by simpa using hcm
      rcases hc2 with q | q | q | q | q | q <;> rw [q]
      · exact Heap.lt_size he
      · exact Heap.lt_size hz
      · exact Heap.lt_size hTI
      · exact Heap.lt_size hTO
      · exact Heap.lt_size e1
      · exact Heap.lt_size e2
    refine ez_next D he hZ ne p.isList p2.isList (x := u) (y := u2) (by simpa using hu) (by simpa using hu2) fun h1 h2 tk pr sz kp ho hZ2 hU k2 => ?_
    refine ⟨_, rfl, wpAny_letOwnedTupleGo_enum (s := { s with heap := h2, toks := tk + 1 }) ho fun h3 he3 sb => ?_⟩
    have he1 : e < s.heap.objs.size := hlt e (by simp)
    have pr3 : IsPair h3 s.heap.objs.size u u2 := (sb.2 _ (Nat.ne_of_gt he1)).trans (k2 _ _ (Nat.ne_of_gt he1) pr)
    have hU3 : h3.get? (s.heap.objs.size + 1) = some { cls := .type "tuple", data := .seq #[.int i tk, .ref s.heap.objs.size] } := (sb.2 _ (Nat.ne_of_gt (Nat.lt_succ_of_lt he1))).trans hU
    have new1 : ObjOk X.prog X.w (upd H s.heap.objs.size (.tup [x, y])) h1 s.heap.objs.size (.tup [x, y]) :=
      ⟨by show 2 ≤ sizeLine; decide, [u, u2], .cons ru (.cons ru2 .nil), ⟨_, pr, rfl, _, rfl⟩⟩
    have I1 : Inv X pins σ (upd H s.heap.objs.size (.tup [x, y])) { s with heap := h1, toks := tk + 1 } :=
      I.turnedNew (ch := [e, z, TI, TO, i1, i2]) (fun c o hb q => kp c o (fun q2 => hb (by simp [q2])) (fun q2 => hb (by simp [q2])) (fun q2 => hb (by simp [q2])) (fun q2 => hb (by simp [q2])) q) hf (Nat.le_refl _) new1
    have hf1 : ∀ c ∈ [e], FpOk X pins (upd H s.heap.objs.size (.tup [x, y])) c := fun c hcm => by
      rw [List.mem_singleton.mp hcm]
      have q := hf e (by simp)
      exact ⟨by rw [upd_ne (Nat.ne_of_lt he1)]; exact q.1, q.2⟩
    have new2 : ObjOk X.prog X.w (upd (upd H s.heap.objs.size (.tup [x, y])) (s.heap.objs.size + 1) (.tup [.int (i : Nat), .ref s.heap.objs.size])) h3 (s.heap.objs.size + 1) (.tup [.int (i : Nat), .ref s.heap.objs.size]) :=
      ⟨by show 2 ≤ sizeLine; decide, [.int i tk, .ref s.heap.objs.size], .cons ⟨_, rfl⟩ (.cons rfl .nil), ⟨_, hU3, rfl, _, rfl⟩⟩
    have I2 : Inv X pins σ (upd (upd H s.heap.objs.size (.tup [x, y])) (s.heap.objs.size + 1) (.tup [.int (i : Nat), .ref s.heap.objs.size])) { s with heap := h3, toks := tk + 1 } :=
      I1.turnedNew (t' := tk + 1) (ch := [e]) (fun c o hb q => (sb.2 c (fun q2 => hb (by simp [q2]))).trans (k2 c o (fun q2 => hb (by simp [q2])) q)) hf1 (by show h1.objs.size ≤ _; rw [sz]; exact Nat.le_refl _) new2
    refine ⟨.ref (s.heap.objs.size + 1), _, I2, rfl, ⟨s.heap.objs.size, s.heap.objs.size + 1, x, y, rfl, I.hok.fresh (Nat.le_refl _), I.hok.fresh (Nat.le_succ _), Nat.succ_ne_self _, rfl, fun l hl => by rw [I.list_inj hl hqx]; exact hx, fun l hl => by rw [I.list_inj hl hqy]; exact hy⟩, ⟨⟨_, by rw [Int.natCast_succ]; exact he3⟩, ?_⟩, fun c hcm => ?_⟩
    · obtain ⟨⟨f0, f, o1, z1⟩, t1, ⟨v1, v2, t2⟩, r1, r2⟩ := hZ2
      have sk : ∀ c o, c ≠ e → h2.get? c = some o → h3.get? c = some o := fun c o n q => (sb.2 c n).trans q
      exact ⟨⟨f0, f, o1, sk _ _ ne.1.symm z1⟩, sk _ _ ne.2.1.symm t1, ⟨v1, v2, sk _ _ ne.2.2.1.symm t2⟩, r1.at fun o q => sk _ o ne.2.2.2.1.symm q, r2.at fun o q => sk _ o ne.2.2.2.2.symm q⟩
    · have hcl := hlt c hcm
      rw [upd_ne (Nat.ne_of_lt (Nat.lt_succ_of_lt hcl)), upd_ne (Nat.ne_of_lt hcl)]
      exact (hf c hcm).1
  done := by
    intro X hP hw hK hc i pins s σ H E I hf st hg
    subst hP hw hK
    obtain ⟨⟨old, he⟩, hZ⟩ := st
    obtain ⟨xs, ys, hqx, hqy, hend⟩ := hg
    obtain ⟨its, rv, p, _⟩ := I.list hqx
    obtain ⟨its2, rv2, p2, _⟩ := I.list hqy
    have l1 := rv.length
    have l2 := rv2.length
    have hn : its.toArray[i]? = none ∨ its2.toArray[i]? = none := by
      rcases hend with q | q
      · exact .inl (by simp; omega)
      · exact .inr (by simp; omega)
    exact ez_stop (I.ok.hd hc) D he hZ p.isList p2.isList hn fun h2 hk => ⟨rfl, I.turnedL (t' := s.toks) (ch := [e, z, TI, TO, i1, i2]) (fun c o hb q =>
      hk c o (fun q2 => hb (by simp [q2])) (fun q2 => hb (by simp [q2])) (fun q2 => hb (by simp [q2])) (fun q2 => hb (by simp [q2])) q) hf⟩
  self := fun A i s Q E st h => let ⟨⟨_, he⟩, _⟩ := st; wpAny_pyIter_enum he h
theorem meets_enumZ {z TI TO : Addr} {f0 : Value} :
    Meets (Builtin.«enumerate.__new__» ⟨[.type "enumerate", .ref z], []⟩) (fun _ R s => IsZip s.heap z TI TO f0 ∧
      R (.ok (.ret (.ref s.heap.objs.size))) { s with heap := s.heap.push { cls := .type "enumerate", data := .fields #[.none, .bool false, .ref z, rawInt 0, .none, .none] } }) :=
  .of_wp fun prog w A R s h => by
    have hsub := sub_enumerate
    obtain ⟨hp, gens, drawn, toks, outs⟩ := s
    obtain ⟨hG, hR⟩ := h
    have itr : ∀ {A' : Around} {E : Value → Shared → Prop} {Q : Value → Shared → Prop}, Q (.ref z) ⟨hp, gens, drawn, toks, outs⟩ → wpAny (model prog w) A' (pyIter (.ref z)) Q E ⟨hp, gens, drawn, toks, outs⟩ :=
      fun q => wpAny_pyIter_zip (s := ⟨hp, gens, drawn, toks, outs⟩) hG q
    wp_walk using itr
    refine wpAny_stack_any fun fr => wpAny_pure ?_
    split
    · rename_i cc _ _ _ _ _
      cases (cc == Value.type "enumerate")
      · (wp_walk using itr); exact ⟨_, rfl, hR⟩
      · (wp_walk using itr); exact ⟨_, rfl, hR⟩
    · (wp_walk using itr); exact ⟨_, rfl, hR⟩
section
variable {prog : Program} {w : World} {A : Around} {E : Value → Shared → Prop} {s : Shared}
theorem call_enumZ {z TI TO : Addr} {f0 : Value} {Q : Value → Shared → Prop} (hG : IsZip s.heap z TI TO f0)
    (h : ∀ h2, IsEnum h2 s.heap.objs.size z 0 .none → (∀ b o2, s.heap.get? b = some o2 → h2.get? b = some o2) → Q (.ref s.heap.objs.size) { s with heap := h2 }) :
    wpAny (model prog w) A (call (.type "enumerate") [.ref z]) Q E s := by
  refine callType_new F.called_enumerate (by decide) (F.typeCall_enumerate_1 _) (F.newCall_enumerate_1 _) (fun ob => F.args_object_init_2 ob _) F.entry_enumerate_new (meets_enumZ (TI := TI) (TO := TO) (f0 := f0)) ⟨hG, ?_⟩
  show _ ∧ _
  have g1 := Heap.get?_push_size s.heap (o := { cls := .type "enumerate", data := .fields #[.none, .bool false, .ref z, rawInt 0, .none, .none] }) rfl
  exact ⟨⟨_, g1, rfl⟩, h _ g1 fun b o2 x => Heap.get?_push_of_some _ x⟩
end
def iEz (K : PySem.W.Frag) (ta : TA) : TI := fun σ H R => ta σ H fun vs H1 => ∃ a b xs ys, vs = [.ref a, .ref b] ∧ SqL K H1 a xs ∧ SqL K H1 b ys ∧ R (Itez K a b) H1
theorem pi_ez {X : Cx} {e e2 : Expr} {ta : TA} {p p2 pos pos2 tpos : Pos} {elts : List Expr} {kk : Nat} (hg : Gl X "enumerate") (hm : X.mg "enumerate" = none) (hg2 : Gl X "zip") (hm2 : X.mg "zip" = none) (ha : PA X [e, e2] ta)
    (hs : starEach [.Call (.Name "zip" p2) [e, e2] [] pos2] X.env = [(false, eval (.Call (.Name "zip" p2) [e, e2] [] pos2) X.env)] := by rfl)
    (hs2 : starEach [e, e2] X.env = (false, eval e X.env) :: starEach [e2] X.env := by rfl) (hpl : (backTo pos2 (starEach [e2] X.env)).any (·.1) = false := by rfl) :
    PI X (.Tuple elts kk tpos) (.Call (.Name "enumerate" p) [.Call (.Name "zip" p2) [e, e2] [] pos2] [] pos) (iEz X.K ta) := by
  refine ⟨fun pins s σ H R I h => Call_ (ld_blt I hg hm boot_enumerate (PyProof.Rows.callWith_type1 ?_ hs rfl))⟩
  rw [hs]
  show wpAny _ _ (spliced ((false, eval (.Call (.Name "zip" p2) [e, e2] [] pos2) X.env) :: backTo pos (starEach [] X.env))) _ _ s
  refine Calls.spliced_cons (Call_ (ld_blt I hg2 hm2 PyProof.Rows.boot_zip (PyProof.Rows.callWith_type1 (thn (ha.run pos2 pins s σ H _ I h) fun us s1 ⟨vs, H1, I1, r1, q1⟩ => ?_) hs2 hpl)))
  obtain ⟨a, b, xs, ys, ex, hqx, hqy, q⟩ := q1
  subst ex
  cases r1 with
  | cons r rr =>
    cases rr with
    | cons r2 rr =>
      cases rr
      cases r
      cases r2
      obtain ⟨its, rv, p1, _⟩ := I1.list hqx
      obtain ⟨its2, rv2, p2, _⟩ := I1.list hqy
      have la : a < s1.heap.objs.size := p1.lt
      have lb : b < s1.heap.objs.size := p2.lt
      refine call_zip_2 p1.isList p2.isList fun h2 hz hTI hTO r1 r2 hsz hk => Calls.spliced_nil ?_
      refine call_enumZ (s := { s1 with heap := h2 }) hz fun h3 he hk3 => wpAny_pyIter_enum he ?_
      have I2 : Inv X pins σ H1 { s1 with heap := h3 } := I1.kept (t' := s1.toks) fun c o q => hk3 c o (hk c o q)
      have hN : h2.objs.size = s1.heap.objs.size + 5 := hsz
      have ne5 : ∀ j : Nat, j < 5 → h2.objs.size ≠ s1.heap.objs.size + j := fun j hj => by
        rw [hN]
        exact fun q => by have := Nat.add_left_cancel q; omega
      refine ⟨h2.objs.size, [h2.objs.size, s1.heap.objs.size + 4, s1.heap.objs.size + 2, s1.heap.objs.size + 3, s1.heap.objs.size, s1.heap.objs.size + 1], _, _, H1, rfl, I2,
        turn_ez (PySem.W.ktu_apart s1.heap.objs.size a b la lb) ⟨ne5 4 (by decide), ne5 2 (by decide), ne5 3 (by decide), ne5 0 (by decide), ne5 1 (by decide)⟩,
        ⟨⟨.none, he⟩, ⟨.none, false, .inl rfl, hk3 _ _ hz⟩, hk3 _ _ hTI, ⟨_, _, hk3 _ _ hTO⟩, r1.at fun o q => hk3 _ o q, r2.at fun o q => hk3 _ o q⟩, fun c hcm => ?_, q⟩
      have hc2 : c = h2.objs.size ∨ c = s1.heap.objs.size + 4 ∨ c = s1.heap.objs.size + 2 ∨ c = s1.heap.objs.size + 3 ∨ c = s1.heap.objs.size ∨ c = s1.heap.objs.size + 1 := by simpa using hcm
      have hle : s1.heap.objs.size ≤ c := by
        rcases hc2 with z | z | z | z | z | z <;> rw [z]
        · rw [hN]; exact Nat.le_add_right _ _
        · exact Nat.le_add_right _ _
        · exact Nat.le_add_right _ _
        · exact Nat.le_add_right _ _
        · exact Nat.le_refl _
        · exact Nat.le_add_right _ _
      exact I1.fpOk hle (I1.hok.fresh hle)
/-- what a turn gives: a new pair of the place and a new pair -/
def YEz (xs ys : List V) : Nat → Hp → V → Hp → Prop := fun i H v H' => ∃ T U x y, v = .ref U ∧ H T = none ∧ H U = none ∧ U ≠ T ∧ H' = upd (upd H T (.tup [x, y])) U (.tup [.int (i : Nat), .ref T]) ∧ xs[i]? = some x ∧ ys[i]? = some y
theorem walk_ez {K : PySem.W.Frag} {a b : Addr} {xs ys : List V} {n : Nat} (hn : n = min xs.length ys.length) : Walk (Itez K a b) n (fun H => SqL K H a xs ∧ SqL K H b ys) (YEz xs ys) := by
  subst hn
  refine ⟨fun i _ hi q => ?_, fun _ q => ⟨xs, ys, q.1, q.2, by omega⟩, fun i H v H' _ q y => ?_⟩
  · have h1 : i < xs.length := by omega
    have h2 : i < ys.length := by omega
    exact ⟨xs, ys, xs[i], ys[i], q.1, q.2, List.getElem?_eq_getElem h1, List.getElem?_eq_getElem h2⟩
  · obtain ⟨T, U, x, y, h1, h2, h3, h4, h5, h6, h7⟩ := y
    exact ⟨T, U, x, y, h1, h2, h3, h4, h5, h6 xs q.1, h7 ys q.2⟩
end Dw

/-! try .. except A as n: .. except B: .. -/
namespace Dw
open PySem PySem.Spec PyProof.Rows L2
section
variable {X : Cx} {x n : Str} {c : Value} {i : Nat} {body suite : List Stmt} {b0 : Stmt} {np pos pos2 : Pos} {tb : WX → TS} {ts : Addr → Value → Option Addr → TS} {Wout : WX} {hs2 : List ExceptHandler} {l : List (Value × (Addr → Value → Option Addr → TS))}
theorem ps_try_as2 (hs : X.stack = X.env :: X.outer) (hf : X.env.frame = some X.env.locals) (hN : X.N.Nodup) (hi : X.N[i]? = some n) (hln : X.env.kindOf n = some .local) (hc : Names X x c) (tk : Takes X Wout)
    (hb : ∀ (W : WX) (pn : List (Addr × Obj)) (xe : Value → Shared → Prop), Takes (X.tr pn xe) W → PassesOwn (model X.prog X.w) X.A X.env xe → PSs (X.tr pn xe) body (tb W))
    (hsu : ∀ (a : Addr) (oe : Obj) (cls : Value) (d : Option Addr) (pn : List (Addr × Obj)), Zc cls d oe → (∃ vs, oe.data = .fields vs) → PSs (X.suite a ((a, oe) :: pn)) (b0 :: suite) (ts a cls d))
    (hh : HdsOk X hs2 l) :
    PS X (.Try body (.ExceptHandler (some (.Name x np)) (some n) (b0 :: suite) pos2 :: hs2) [] [] pos) (fun D σ H => tb (wAs X.K c i ts (wMany X.K Wout D l) D) D σ H) := by
  refine ⟨fun pins s σ H D I h => ?_⟩
  have ok := I.ok
  have frs1 : X.A.frames = some (X.env :: X.outer) := by rw [ok.frames, hs]
  have locn : Loc X.env.scope n := .inl hln
  refine wpAny_Try_except (wpAny_mono ((hb (wAs X.K c i ts (wMany X.K Wout D l) D) (X.pn ++ pins) (fun e s1 => wpAny (model X.prog X.w) X.A (noteFrame e X.env) (fun _ s2 => wpAny (model X.prog X.w) X.A (setFlight e none) (fun _ s3 =>
    wpAny (model X.prog X.w) X.A (handleBy e X.env (.ExceptHandler (some (.Name x np)) (some n) (b0 :: suite) pos2 :: hs2)) (SP X pins D) X.xe s3) X.xe s2) X.xe s1) (fun u s' caught => ?_) PassesOwn.looking).run [] s σ H D (I.toTry _) h) (fun f s1 hsp => ?_) (fun e s1 he => he))
  · obtain ⟨a, B, sI, pinsI, σ', H', cls, d, rfl, J', nb, up, sky, na, os, ag, b, hb1, hyes, hno⟩ := caught
    have J : Inv X pins σ' H' sI := J'.ofTry ok
    have sky2 : Sky B (X.env :: X.outer) a (Zc cls d) X.env.locals s'.heap := by rw [← hs]; exact sky
    show wpAny (model X.prog X.w) X.A (noteFrame (.ref a) X.env) _ _ _
    refine Sky.land Zc.steady frs1 hf sky2 fun h3 fl3 up3 => ?_
    have J3 : Inv X pins σ' H' { s' with heap := h3 } := J.landed nb fl3.1 (up.trans up3) os ag
    obtain ⟨oe3, vs3, he3, hz3, hd3⟩ := fl3.there
    have nfr : a ∉ frs (X.env :: X.outer) := fun hm => by
      obtain ⟨_, o2, e2, hnf⟩ := fl3.2.2.1.mem hm
      rw [he3] at e2
      cases e2
      exact hnf _ hd3
    have nL : a ≠ X.env.locals := fun z => nfr (List.mem_filterMap.mpr ⟨X.env, List.mem_cons_self, by rw [hf, z]⟩)
    have nF : a ∉ X.fs := fun hm => by
      obtain ⟨e, he, q⟩ := List.mem_filterMap.mp hm
      exact nfr (List.mem_filterMap.mpr ⟨e, List.mem_cons_of_mem _ he, q⟩)
    have S3 := J3.suite he3 hd3 na nL nF
    have look : PySem.W.Looks (model X.prog X.w) h3 (typeOf (.ref a)) cls := fun A Q E s k q => wpAny_typeOf_ref (k _ _ he3) (by rw [hz3.1]; exact q)
    have tst : ∀ {y : Str} {cy : Value} {py : Pos} {Q : Value → Shared → Prop} {E : Value → Shared → Prop}, Names X y cy → Q cy { s' with heap := h3 } → wpAny (model X.prog X.w) (X.A.mark (some (.ref a))) (eval (.Name y py) X.env) Q E { s' with heap := h3 } := fun {y cy py Q E} hy q => by
      obtain ⟨hg, hdbg, hm | ⟨hm, hv, hnn⟩⟩ := hy
      · exact ld_glob (X := X.suite a ((a, oe3) :: (X.pn ++ pins))) S3 hg hm q hdbg
      · exact ld_blt (X := X.suite a ((a, oe3) :: (X.pn ++ pins))) S3 hg hm hv q hnn hdbg
    have rest : ∀ {hds : List ExceptHandler} {ll : List (Value × (Addr → Value → Option Addr → TS))}, HdsOk X hds ll → wMany X.K Wout D ll cls d σ' H' →
        wpAny (model X.prog X.w) X.A (handleBy (.ref a) X.env hds) (SP X pins D) X.xe { s' with heap := h3 } := by
      intro hds ll hk
      induction hk with
      | nil =>
        intro wo
        refine wpAny_handleBy_nil ?_
        obtain ⟨_, _, _, oe, vs, Tb, oT, _, he, _, hd, hh1, _⟩ := id fl3
        unfold PySem.passOn
        refine wpAny_bind (wpAny_field he hd hh1 ?_)
        rw [if_neg (show ¬ (Value.ref Tb == Value.none) = true from by simp)]
        have fin : wpAny (model X.prog X.w) X.A (setFlight (.ref a) X.env.frame) (fun _ s4 => wpAny (model X.prog X.w) X.A (throw (.ref a) : Sem Flow) (SP X pins D) X.xe s4) X.xe { s' with heap := h3 } := by
          rw [hf]
          refine HandSPX.setFlight_upZ fl3 fun h4 hh4 up4 => wpAny_throw (tk _ _ ?_)
          exact ⟨a, B, sI, pins, σ', H', cls, d, rfl, J, nb, (up.trans up3).trans up4, .inr (.inr (by rw [hs]; exact hh4)), na, os, ag, wo⟩
        first
          | exact wpAny_bind (wpAny_pure (wpAny_bind fin))
          | exact wpAny_bind fin
      | @cons y cy ty c0 st2 npy posy hds3 l3 hcy hsy r ih =>
        intro wo
        obtain ⟨b2, hb2, yes2, no2⟩ := wo
        have LM2 := PySem.W.exm_one (M := model X.prog X.w) (J3.kIn) look hb2
        refine wpAny_handleBy_cons (codeAny_handlers_test (tst hcy (LM2.here ?_))) (by intro q; cases q)
        cases b2 with
        | true =>
          refine codeAny_handlers_suite (HandSPX.lands_againZ fl3 fun h4 fl4 up4 => ?_)
          have J4 : Inv X pins σ' H' { s' with heap := h4 } := J.landed nb fl4.1 ((up.trans up3).trans up4) os ag
          obtain ⟨oe4, vs4, he4, hz4, hd4⟩ := fl4.there
          refine wpAny_mono ((hsy a oe4 cls d (X.pn ++ pins) hz4 ⟨_, hd4⟩).run [] _ _ H' _ (J4.suite he4 hd4 na nL nF) (yes2 rfl a na)) (fun f s6 hsp => ?_) (fun _ _ z => False.elim z)
          cases f with
          | next => obtain ⟨σ6, H6, S6, q6⟩ := hsp; exact ⟨_, _, S6.unsuite ok, q6⟩
          | brk => obtain ⟨σ6, H6, S6, q6⟩ := hsp; exact ⟨_, _, S6.unsuite ok, q6⟩
          | cont => obtain ⟨σ6, H6, S6, q6⟩ := hsp; exact ⟨_, _, S6.unsuite ok, q6⟩
          | ret u => obtain ⟨v6, σ6, H6, S6, r6, q6⟩ := hsp; exact ⟨_, _, _, S6.unsuite ok, r6, q6⟩
        | false =>
          show wpAny _ X.A (handleBy (.ref a) X.env hds3) _ _ _
          exact ih (no2 rfl)
    have LM := PySem.W.exm_one (M := model X.prog X.w) (J3.kIn) look hb1
    refine wpAny_handleBy_cons (codeAny_handlers_test (tst hc (LM.here ?_))) (by intro q; cases q)
    cases b with
    | true =>
      refine codeAny_handlers_suite_as (HandSPX.lands_againZ fl3 fun h4 fl4 up4 => ?_)
      have J4 : Inv X pins σ' H' { s' with heap := h4 } := J.landed nb fl4.1 ((up.trans up3).trans up4) os ag
      obtain ⟨oe4, vs4, he4, hz4, hd4⟩ := fl4.there
      refine store_ok (X := X.suite a ((a, oe4) :: (X.pn ++ pins))) (v := .ref a) (J4.suite he4 hd4 na nL nF) hN hi locn rfl (fun s5 S5 => ?_) (.inr hln)
      refine wpAny_mono ((hsu a oe4 cls d (X.pn ++ pins) hz4 ⟨_, hd4⟩).run [] s5 _ H' _ S5 (hyes rfl a na)) (fun f s6 hsp => ?_) (fun _ _ z => False.elim z)
      have fin : ∀ {σ6 : L2.St} {H6 : Hp} {Q : Shared → Prop}, Inv (X.suite a ((a, oe4) :: (X.pn ++ pins))) [] σ6 H6 s6 → (∀ s7, Inv X pins (σ6.set i none) H6 s7 → Q s7) →
          wpAny (model X.prog X.w) X.A (do bindName X.env n .none; unbindBehindTheSuite X.env n pos2) (fun _ s7 => Q s7) X.xe s6 := fun {σ6 H6 Q} S6 hq => gone_ok (S6.unsuite ok) hN hi hln hq
      cases f with
      | next => obtain ⟨σ6, H6, S6, q6⟩ := hsp; exact fin S6 fun s7 J7 => ⟨_, _, J7, q6⟩
      | brk => obtain ⟨σ6, H6, S6, q6⟩ := hsp; exact fin S6 fun s7 J7 => ⟨_, _, J7, q6⟩
      | cont => obtain ⟨σ6, H6, S6, q6⟩ := hsp; exact fin S6 fun s7 J7 => ⟨_, _, J7, q6⟩
      | ret u => obtain ⟨v6, σ6, H6, S6, r6, q6⟩ := hsp; exact fin S6 fun s7 J7 => ⟨_, _, _, J7, r6, q6⟩
    | false =>
      show wpAny _ X.A (handleBy (.ref a) X.env hs2) _ _ _
      exact rest hh (hno rfl)
  · cases f with
    | next => obtain ⟨σ', H', J', q⟩ := hsp; exact wpAny_execs_nil ⟨σ', H', J'.ofTry ok, q⟩
    | brk => obtain ⟨σ', H', J', q⟩ := hsp; exact ⟨σ', H', J'.ofTry ok, q⟩
    | cont => obtain ⟨σ', H', J', q⟩ := hsp; exact ⟨σ', H', J'.ofTry ok, q⟩
    | ret u => obtain ⟨v, σ', H', J', r, q⟩ := hsp; exact ⟨v, σ', H', J'.ofTry ok, r, q⟩
end
end Dw

/-! differences of lists -/
namespace Dw
open PySem PySem.Spec PyProof.Rows L2
/-- how long the common beginning is -/
def cpl : List Int → List Int → Nat
  | a :: as, b :: bs => if a = b then cpl as bs + 1 else 0
  | [], _ => 0
  | _ :: _, [] => 0
theorem cpl_le : ∀ a b : List Int, cpl a b ≤ a.length ∧ cpl a b ≤ b.length
  | [], b => ⟨Nat.zero_le _, Nat.zero_le _⟩
  | _ :: _, [] => ⟨Nat.zero_le _, Nat.zero_le _⟩
  | a :: as, b :: bs => by
    have h := cpl_le as bs
    unfold cpl
    split
    · simp only [List.length_cons]; omega
    · exact ⟨Nat.zero_le _, Nat.zero_le _⟩
theorem cpl_eq : ∀ {a b : List Int} {i : Nat}, i < cpl a b → a[i]? = b[i]?
  | [], b, i, h => by unfold cpl at h; omega
  | _ :: _, [], i, h => by unfold cpl at h; omega
  | a :: as, b :: bs, i, h => by
    unfold cpl at h
    split at h
    · rename_i e
      subst e
      cases i with
      | zero => rfl
      | succ i => exact cpl_eq (a := as) (b := bs) (by omega)
    · omega
theorem cpl_ne : ∀ {a b : List Int} {x y : Int}, a[cpl a b]? = some x → b[cpl a b]? = some y → x ≠ y
  | [], b, x, y, h, _ => by simp at h
  | _ :: _, [], x, y, _, h => by simp at h
  | a :: as, b :: bs, x, y, h1, h2 => by
    by_cases e : a = b
    · have e2 : cpl (a :: as) (b :: bs) = cpl as bs + 1 := by rw [cpl, if_pos e]
      rw [e2] at h1 h2
      exact cpl_ne (a := as) (b := bs) h1 h2
    · have e2 : cpl (a :: as) (b :: bs) = 0 := by rw [cpl, if_neg e]
      rw [e2] at h1 h2
      cases h1
      cases h2
      exact e
theorem cpl_step {a b : List Int} {i : Nat} {x y : Int} (h : i ≤ cpl a b) (hx : a[i]? = some x) (hy : b[i]? = some y) : (x = y → i + 1 ≤ cpl a b) ∧ (x ≠ y → i = cpl a b) := by
  refine ⟨fun e => ?_, fun e => ?_⟩
  · rcases Nat.lt_or_ge i (cpl a b) with h1 | h1
    · exact h1
    · have e2 : i = cpl a b := by omega
      rw [e2] at hx hy
      exact absurd e (cpl_ne hx hy)
  · rcases Nat.lt_or_ge i (cpl a b) with h1 | h1
    · have := cpl_eq h1
      rw [hx, hy] at this
      exact absurd (Option.some.inj this) e
    · omega
theorem cpl_take {a b : List Int} : a.take (cpl a b) = b.take (cpl a b) := by
  apply List.ext_getElem?
  intro i
  by_cases h : i < cpl a b
  · rw [List.getElem?_take_of_lt h, List.getElem?_take_of_lt h]
    exact cpl_eq h
  · rw [List.getElem?_eq_none (by rw [List.length_take]; omega), List.getElem?_eq_none (by rw [List.length_take]; omega)]
/-- the common end behind the common beginning -/
def cel (a b : List Int) : Nat := cpl (a.drop (cpl a b)).reverse (b.drop (cpl a b)).reverse
def midl (a b : List Int) : List Int := (a.drop (cpl a b)).take (a.length - cpl a b - cel a b)
def midr (a b : List Int) : List Int := (b.drop (cpl a b)).take (b.length - cpl a b - cel a b)
theorem cel_le (a b : List Int) : cel a b ≤ a.length - cpl a b ∧ cel a b ≤ b.length - cpl a b := by
  have h := cpl_le (a.drop (cpl a b)).reverse (b.drop (cpl a b)).reverse
  rw [List.length_reverse, List.length_reverse, List.length_drop, List.length_drop] at h
  exact h
theorem take_rev {l : List Int} {n : Nat} (h : n ≤ l.length) : (l.reverse.take n).reverse = l.drop (l.length - n) := by
  rw [List.take_reverse, List.reverse_reverse]
theorem mid_ne {a b : List Int} (h : a ≠ b) : midl a b ≠ midr a b := fun e => by
  have h1 := cel_le a b
  have l1 := cpl_le a b
  have t1 : a.take (cpl a b) = b.take (cpl a b) := cpl_take
  have t2 : (a.drop (cpl a b)).reverse.take (cel a b) = (b.drop (cpl a b)).reverse.take (cel a b) := cpl_take
  have t3 := congrArg List.reverse t2
  rw [take_rev (by rw [List.length_drop]; omega), take_rev (by rw [List.length_drop]; omega), List.length_drop, List.length_drop] at t3
  have e : (a.drop (cpl a b)).take (a.length - cpl a b - cel a b) = (b.drop (cpl a b)).take (b.length - cpl a b - cel a b) := e
  have e1 : a.drop (cpl a b) = b.drop (cpl a b) :=
    (List.take_append_drop (a.length - cpl a b - cel a b) (a.drop (cpl a b))).symm.trans ((congr (congrArg _ e) t3).trans (List.take_append_drop (b.length - cpl a b - cel a b) (b.drop (cpl a b))))
  exact h ((List.take_append_drop (cpl a b) a).symm.trans ((congr (congrArg _ t1) e1).trans (List.take_append_drop (cpl a b) b)))
/-- xs[i] with i from the end -/
def rIxE : R2 := fun x y H Q => ∃ p ns i, x = .ref p ∧ y = .int i ∧ H p = some (IL ns) ∧ (-(ns.length : Int) ≤ i ∧ i < 0) ∧ Q (.int (ns.getD (i + ns.length).toNat 0)) H
theorem ix_listE {X : Cx} : IxR X rIxE := IxR.imp ix_list fun x y H Q h => by
  obtain ⟨p, ns, i, e1, e2, h1, ⟨h2, h3⟩, q⟩ := h
  refine ⟨p, ns.map V.int, i, _, e1, e2, .of h1, ?_, q⟩
  have hk : (i + ns.length).toNat < ns.length := by omega
  unfold atI ixN
  rw [List.length_map, if_neg (by omega), if_pos h2]
  show (ns.map V.int)[(i + ns.length).toNat]? = _
  rw [List.getElem?_map, List.getElem?_eq_getElem hk, List.getD_eq_getElem?_getD, List.getElem?_eq_getElem hk]
  rfl
theorem rev_at {l : List Int} {c i : Nat} (h : i < l.length - c) : (l.drop c).reverse[i]? = some (l.getD (l.length - 1 - i) 0) := by
  rw [List.getElem?_reverse (by rw [List.length_drop]; exact h), List.length_drop, List.getElem?_drop, show c + (l.length - c - 1 - i) = l.length - 1 - i by omega, List.getD_eq_getElem?_getD, List.getElem?_eq_getElem (show l.length - 1 - i < l.length by omega)]
  rfl
/-! ### runs of places -/
abbrev Rn := Int × Int
def stepC (rs : List Rn) (p : Int) : List Rn := match rs.getLast? with | some (s, c) => if p = s + c then rs.dropLast ++ [(s, c + 1)] else rs ++ [(p, 1)] | none => [(p, 1)]
def runsZ (ps : List Int) : List Rn := ps.foldl stepC []
theorem runsZ_more {ps : List Int} {p : Int} : runsZ (ps ++ [p]) = stepC (runsZ ps) p := by
  unfold runsZ
  rw [List.foldl_append]
  rfl
theorem stepC_nil (p : Int) : stepC [] p = [(p, 1)] := rfl
theorem stepC_app (pre : List Rn) (s c p : Int) : stepC (pre ++ [(s, c)]) p = if p = s + c then pre ++ [(s, c + 1)] else pre ++ [(s, c)] ++ [(p, 1)] := by
  unfold stepC
  rw [List.getLast?_append]
  simp
def RunsOk (d : Int → Prop) : Int → List Rn → Prop
  | _, [] => True
  | lo, (s, c) :: r => lo ≤ s ∧ 1 ≤ c ∧ d s ∧ RunsOk d (s + c + 1) r
theorem RunsOk.grow {d : Int → Prop} {s c : Int} : ∀ {pre : List Rn} {lo : Int}, RunsOk d lo (pre ++ [(s, c)]) → RunsOk d lo (pre ++ [(s, c + 1)])
  | [], lo, h => ⟨h.1, by have := h.2.1; omega, h.2.2.1, trivial⟩
  | (_, _) :: r, lo, h => ⟨h.1, h.2.1, h.2.2.1, RunsOk.grow (pre := r) h.2.2.2⟩
theorem RunsOk.more {d : Int → Prop} {s c p : Int} (hp : s + c < p) (hd : d p) : ∀ {pre : List Rn} {lo : Int}, RunsOk d lo (pre ++ [(s, c)]) → RunsOk d lo (pre ++ [(s, c)] ++ [(p, 1)])
  | [], lo, h => ⟨h.1, h.2.1, h.2.2.1, by omega, by decide, hd, trivial⟩
  | (_, _) :: r, lo, h => ⟨h.1, h.2.1, h.2.2.1, RunsOk.more hp hd (pre := r) h.2.2.2⟩
theorem RunsOk.last {d : Int → Prop} {s c : Int} : ∀ {pre : List Rn} {lo : Int}, RunsOk d lo (pre ++ [(s, c)]) → 1 ≤ c
  | [], lo, h => h.2.1
  | (_, _) :: r, lo, h => RunsOk.last (pre := r) h.2.2.2
/-- the end of the last run -/
def endRn (rs : List Rn) : Int := match rs.getLast? with | some (s, c) => s + c | none => 0
theorem endRn_app (pre : List Rn) (s c : Int) : endRn (pre ++ [(s, c)]) = s + c := by
  unfold endRn
  rw [List.getLast?_append]
  simp
theorem snoc_cases {α : Type} (l : List α) : l = [] ∨ ∃ pre x, l = pre ++ [x] := by
  rcases List.eq_nil_or_concat l with h | ⟨pre, x, h⟩
  · exact .inl h
  · exact .inr ⟨pre, x, by rw [h, List.concat_eq_append]⟩
theorem stepC_ok {d : Int → Prop} {rs : List Rn} {p : Int} (h : RunsOk d 0 rs) (hp : endRn rs ≤ p) (h0 : 0 ≤ p) (hd : d p) : RunsOk d 0 (stepC rs p) ∧ endRn (stepC rs p) = p + 1 ∧ (stepC rs p).length ≤ rs.length + 1 := by
  rcases snoc_cases rs with rfl | ⟨pre, ⟨s, c⟩, rfl⟩
  · rw [stepC_nil]
    exact ⟨⟨h0, by decide, hd, trivial⟩, rfl, Nat.le_refl _⟩
  · rw [endRn_app] at hp
    rw [stepC_app]
    split
    · rename_i e
      refine ⟨h.grow, by rw [endRn_app]; omega, by rw [List.length_append, List.length_append]; simp⟩
    · exact ⟨h.more (by omega) hd, by rw [endRn_app], by rw [List.length_append]; exact Nat.le_refl _⟩
theorem RunsOk.all {d : Int → Prop} : ∀ {rs : List Rn} {lo : Int}, 0 ≤ lo → RunsOk d lo rs → ∀ r ∈ rs, 0 ≤ r.1 ∧ 1 ≤ r.2
  | (s, c) :: q, lo, h0, h, r, hr => by
    obtain ⟨h1, h2, h3, h4⟩ := h
    rcases List.mem_cons.mp hr with e | e
    · rw [e]
      exact ⟨by show 0 ≤ s; omega, h2⟩
    · exact RunsOk.all (lo := s + c + 1) (by omega) h4 r e
/-- all runs end before n -/
def RunsIn (n : Int) (rs : List Rn) : Prop := ∀ r ∈ rs, r.1 + r.2 ≤ n
theorem RunsIn.step {n : Int} {rs : List Rn} {p : Int} (h : RunsIn n rs) (hp : p + 1 ≤ n) : RunsIn n (stepC rs p) := by
  rcases snoc_cases rs with rfl | ⟨pre, ⟨s, c⟩, rfl⟩
  · intro r hr
    rw [stepC_nil] at hr
    rw [List.mem_singleton.mp hr]
    exact hp
  · rw [stepC_app]
    split
    · rename_i e
      intro r hr
      rcases List.mem_append.mp hr with q | q
      · exact h r (List.mem_append_left _ q)
      · rw [List.mem_singleton.mp q]
        show s + (c + 1) ≤ n
        omega
    · intro r hr
      rcases List.mem_append.mp hr with q | q
      · exact h r q
      · rw [List.mem_singleton.mp q]
        exact hp
def neqP (as bs : List Int) (i : Nat) : Bool := decide (as.getD i 0 ≠ bs.getD i 0)
def placesN (as bs : List Int) (n : Nat) : List Int := ((List.range n).filter (neqP as bs)).map fun i : Nat => (i : Int)
theorem placesN_more (as bs : List Int) (n : Nat) : placesN as bs (n + 1) = if neqP as bs n = true then placesN as bs n ++ [(n : Int)] else placesN as bs n := by
  unfold placesN
  rw [List.range_succ, List.filter_append, List.map_append]
  split
  · rename_i e
    simp [e]
  · rename_i e
    simp [e]
theorem places_ok (as bs : List Int) : ∀ n : Nat, RunsOk (fun s => as.getD s.toNat 0 ≠ bs.getD s.toNat 0) 0 (runsZ (placesN as bs n)) ∧ endRn (runsZ (placesN as bs n)) ≤ n ∧ RunsIn n (runsZ (placesN as bs n)) ∧ (runsZ (placesN as bs n)).length ≤ n
  | 0 => ⟨trivial, Int.le_refl _, (fun r hr => by cases hr), Nat.le_refl _⟩
  | n + 1 => by
    obtain ⟨h1, h2, h3, h4⟩ := places_ok as bs n
    rw [placesN_more]
    split
    · rename_i e
      rw [runsZ_more]
      have hd : as.getD ((n : Int).toNat) 0 ≠ bs.getD ((n : Int).toNat) 0 := by
        rw [Int.toNat_natCast]
        unfold neqP at e
        exact of_decide_eq_true e
      obtain ⟨q1, q2, q3⟩ := stepC_ok h1 h2 (by omega) hd
      exact ⟨q1, by rw [q2]; omega, RunsIn.step (n := ((n + 1 : Nat) : Int)) (fun r hr => by have := h3 r hr; omega) (by omega), by omega⟩
    · exact ⟨h1, by omega, fun r hr => by have := h3 r hr; omega, by omega⟩
def chOf (as bs : List Int) (r : Rn) : Ch := (r.1, (as.drop r.1.toNat).take r.2.toNat, (bs.drop r.1.toNat).take r.2.toNat)
theorem Bytes.dt {as : List Int} (h : Bytes as) (a n : Nat) : Bytes ((as.drop a).take n) := fun x hx => h x (List.mem_of_mem_drop (List.mem_of_mem_take hx))
theorem cutI_from {ns : List Int} {i : Nat} (h : i ≤ ns.length) : cutI ns (some (i : Int)) none = ns.drop i := by
  unfold cutI
  rw [HT.sIx_nat, Nat.min_eq_left h]
  show (ns.drop i).take (ns.length - i) = _
  rw [List.take_of_length_le (by rw [List.length_drop]; omega)]
theorem cutI_to {ns : List Int} {j : Nat} (h : j ≤ ns.length) : cutI ns none (some (j : Int)) = ns.take j := by
  unfold cutI
  rw [HT.sIx_nat, Nat.min_eq_left h]
  show (ns.drop 0).take (j - 0) = _
  rfl
theorem cutR {xs : List Int} {s c : Int} (h0 : 0 ≤ s) (h1 : 1 ≤ c) (h2 : s + c ≤ xs.length) : cutI xs (some s) (some (s + c)) = (xs.drop s.toNat).take c.toNat := by
  obtain ⟨n, rfl⟩ := Int.eq_ofNat_of_zero_le h0
  obtain ⟨m, rfl⟩ := Int.eq_ofNat_of_zero_le (show 0 ≤ c by omega)
  rw [show (n : Int) + (m : Int) = ((n + m : Nat) : Int) by omega, cutI_nat (by omega) (by omega), Nat.add_sub_cancel_left]
  rfl
/-- a pair of ints -/
def PrAt (H : Hp) (x : V) (r : Rn) : Prop := ∃ t, x = .ref t ∧ H t = some (.tup [.int r.1, .int r.2])
theorem PrAt.same {H H' : Hp} {x : V} {r : Rn} (s : Same H H') (h : PrAt H x r) : PrAt H' x r := by
  obtain ⟨t, e, h⟩ := h
  exact ⟨t, e, s _ _ h⟩
theorem PrAt.ups {D : Addr} {H : Hp} {xs : List V} {o : HO} {x : V} {r : Rn} (hD : H D = some (.lst xs)) (h : PrAt H x r) : PrAt (upd H D o) x r := by
  obtain ⟨t, e, h⟩ := h
  have n : t ≠ D := fun q => by subst q; rw [h] at hD; cases hD
  exact ⟨t, e, by rw [upd_ne n]; exact h⟩
theorem AllAt.pop {α : Type} {R : V → α → Prop} {xs : List V} {ss : List α} {x : V} {s : α} (h : AllAt R (xs ++ [x]) (ss ++ [s])) : AllAt R xs ss ∧ R x s := by
  have hl : xs.length = ss.length := by have := h.1; rw [List.length_append, List.length_append] at this; simpa using this
  refine ⟨⟨hl, fun i y e => ?_⟩, ?_⟩
  · have hi := (List.getElem?_eq_some_iff.mp e).1
    obtain ⟨s2, h1, h2⟩ := h.2 i y (by rw [List.getElem?_append_left hi]; exact e)
    rw [List.getElem?_append_left (by omega)] at h1
    exact ⟨s2, h1, h2⟩
  · obtain ⟨s2, h1, h2⟩ := h.2 xs.length x (by rw [List.getElem?_append_right (Nat.le_refl _), Nat.sub_self]; rfl)
    rw [hl, List.getElem?_append_right (Nat.le_refl _), Nat.sub_self] at h1
    cases h1
    exact h2
theorem AllAt.snoc {α : Type} {R : V → α → Prop} {xs : List V} {pre : List α} {s : α} (h : AllAt R xs (pre ++ [s])) : ∃ ys y, xs = ys ++ [y] ∧ AllAt R ys pre ∧ R y s := by
  rcases snoc_cases xs with rfl | ⟨ys, y, rfl⟩
  · have := h.1
    simp at this
  · exact ⟨ys, y, rfl, h.pop⟩
/-- xs[-1] = v -/
def rSetL : TSet := fun o i v H Q => ∃ p xs x, o = .ref p ∧ i = .int (-1) ∧ H p = some (.lst (xs ++ [x])) ∧ Q (upd H p (.lst (xs ++ [v])))
theorem set_listL {X : Cx} : PSet X rSetL := PSet.imp set_list fun o i v H Q h => by
  obtain ⟨p, xs, x, e1, e2, h1, q⟩ := h
  have hk : ixN (xs ++ [x]).length (-1) = some xs.length := by
    unfold ixN
    rw [if_neg (by decide), if_pos (by rw [List.length_append]; simp; omega)]
    rw [List.length_append]
    simp
    omega
  have es : (xs ++ [x]).set xs.length v = xs ++ [v] := by
    rw [List.set_append_right _ _ (Nat.le_refl _), Nat.sub_self]
    rfl
  exact ⟨p, _, -1, xs.length, e1, e2, h1, hk, by rw [es]; exact q⟩
theorem pe_chainX {X : Cx} {a b c : Expr} {ta tb tc : TE} {pos : Pos} {op op' : CmpOp} {r r' : R2} (ho : OpR X (compareOp op) r) (ho' : OpR X (compareOp op') r') (ha : PE X a ta) (hb : PE X b tb) (hc : PE X c tc)
    (hm : lastMarks [op, op'] [b, c] = false) : PE X (.Compare a [op, op'] [b, c] pos) (tChain r r' ta tb tc) := pe_chain ho ho' ha hb hc hm
theorem pe_fldT {X : Cx} {pn : List (Addr × Obj)} {xe : Value → Shared → Prop} {e : Expr} {ta : TE} {f : Str} {pos : Pos} (he : PE (X.tr pn xe) e ta) (hb : attributeBase e f (X.tr pn xe).env (eval e (X.tr pn xe).env) = eval e (X.tr pn xe).env) : PE (X.tr pn xe) (.Attribute e f pos) (tFld X.K ta f) := pe_fld he hb
def prD (r : Rn) : PyData := .tuple [.int r.1, .int r.2]
theorem prs_shal : ∀ rs : List Rn, ShalAll (rs.map prD) 6
  | [] => .nil
  | r :: t => .cons (.tup (.cons .int (.cons .int .nil))) (prs_shal t)
theorem PrAt.dt {H : Hp} {x : V} {r : Rn} (h : PrAt H x r) : Dt H x (prD r) := by
  obtain ⟨t, rfl, h⟩ := h
  exact .tup h (.cons (.int _) (.cons (.int _) .nil))
theorem prs_dt {H : Hp} : ∀ {xs : List V} {rs : List Rn}, AllAt (PrAt H) xs rs → DtAll H xs (rs.map prD)
  | [], [], _ => .nil
  | [], _ :: _, h => by have := h.1; simp at this
  | _ :: _, [], h => by have := h.1; simp at this
  | x :: r, c :: t, h => by
    obtain ⟨d, hd, hx⟩ := h.2 0 x rfl
    cases hd
    exact .cons hx.dt (prs_dt ⟨by have := h.1; simpa using this, fun i y e => h.2 (i + 1) y e⟩)
theorem eqv_prs (rs : List Rn) : PyData.eqv (.list (rs.map prD)) (.list []) = decide (rs = []) := by
  rw [PyData.eqv]
  cases rs with
  | nil => rw [List.map_nil, PyData.eqvAll]; rfl
  | cons r t =>
    show PyData.eqvAll (_ :: _) [] = _
    rw [PyData.eqvAll, decide_eq_false (fun e => by cases e)]
def endsZ (rs : List Rn) : List Rn := rs.map fun r => (r.1, r.1 + r.2)
theorem endsZ_app (pre : List Rn) (s c : Int) : endsZ (pre ++ [(s, c)]) = endsZ pre ++ [(s, s + c)] := by
  unfold endsZ
  rw [List.map_append]
  rfl
/-! ### x, 0, x, 0, .. -/
def altL (x : Int) (m : Nat) : List Int := (List.replicate m [x, 0]).flatten
theorem altL_succ (x : Int) (m : Nat) : altL x (m + 1) = x :: 0 :: altL x m := rfl
theorem alt_len (x : Int) : ∀ m : Nat, (altL x m).length = 2 * m
  | 0 => rfl
  | m + 1 => by
    rw [altL_succ, List.length_cons, List.length_cons, alt_len x m]
    omega
theorem alt_get (x : Int) : ∀ m k : Nat, k < m → (altL x m).getD (2 * k) 0 = x ∧ (altL x m).getD (2 * k + 1) 0 = 0
  | 0, k, h => by omega
  | m + 1, 0, h => ⟨rfl, rfl⟩
  | m + 1, k + 1, h => by
    have ih := alt_get x m k (by omega)
    rw [altL_succ, show 2 * (k + 1) = 2 * k + 1 + 1 by omega, List.getD_cons_succ, List.getD_cons_succ, List.getD_cons_succ, List.getD_cons_succ]
    exact ih
theorem alt_runs (m : Nat) : ∀ k : Nat, k ≤ m → runsZ (placesN (altL 0 m) (altL 1 m) (2 * k)) = (List.range k).map fun j : Nat => (((2 * j : Nat) : Int), 1)
  | 0, _ => rfl
  | k + 1, h => by
    have ih := alt_runs m k (by omega)
    obtain ⟨a1, a2⟩ := alt_get 0 m k (by omega)
    obtain ⟨b1, b2⟩ := alt_get 1 m k (by omega)
    have n1 : neqP (altL 0 m) (altL 1 m) (2 * k) = true := by
      unfold neqP
      rw [a1, b1]
      rfl
    have n2 : neqP (altL 0 m) (altL 1 m) (2 * k + 1) = false := by
      unfold neqP
      rw [a2, b2]
      rfl
    rw [show 2 * (k + 1) = 2 * k + 1 + 1 by omega, placesN_more, if_neg (by rw [n2]; decide), placesN_more, if_pos n1, runsZ_more, ih, List.range_succ, List.map_append]
    cases k with
    | zero => rfl
    | succ k =>
      rw [List.range_succ, List.map_append]
      show stepC (_ ++ [(((2 * k : Nat) : Int), 1)]) _ = _
      rw [stepC_app, if_neg (by omega)]
      rfl
/-! ### patches of any parts -/
def FitM : Int → List Ch → Prop
  | _, [] => True
  | l, c :: r => l ≤ c.1 ∧ Bytes c.2.1 ∧ Bytes c.2.2 ∧ c.2.1.length ≤ 10000 ∧ c.2.2.length ≤ 10000 ∧ c.2.1 ≠ c.2.2 ∧ FitM (c.1 + c.2.1.length + 1) r
theorem fit_runs {as bs : List Int} (hl : as.length = bs.length) (hs : as.length ≤ 10000) (ba : Bytes as) (bb : Bytes bs) : ∀ {rs : List Rn} {lo : Int}, 0 ≤ lo → RunsOk (fun s => as.getD s.toNat 0 ≠ bs.getD s.toNat 0) lo rs → RunsIn as.length rs → FitM lo (rs.map (chOf as bs))
  | [], lo, _, _, _ => trivial
  | (s, c) :: r, lo, h0, h, hi => by
    obtain ⟨h1, h2, h3, h4⟩ := h
    have h5 : s + c ≤ as.length := hi (s, c) List.mem_cons_self
    have l1 : ((as.drop s.toNat).take c.toNat).length = c.toNat := by rw [List.length_take, List.length_drop]; omega
    have l2 : ((bs.drop s.toNat).take c.toNat).length = c.toNat := by rw [List.length_take, List.length_drop]; omega
    have fa : ∀ xs : List Int, ((xs.drop s.toNat).take c.toNat).getD 0 0 = xs.getD s.toNat 0 := fun xs => by
      rw [List.getD_eq_getElem?_getD, List.getD_eq_getElem?_getD, List.getElem?_take_of_lt (by omega), List.getElem?_drop, Nat.add_zero]
    refine ⟨h1, ba.dt _ _, bb.dt _ _, by show ((as.drop s.toNat).take c.toNat).length ≤ _; omega, by show ((bs.drop s.toNat).take c.toNat).length ≤ _; omega, fun e => h3 ?_, ?_⟩
    · have e : (as.drop s.toNat).take c.toNat = (bs.drop s.toNat).take c.toNat := e
      rw [← fa as, ← fa bs, e]
    · show FitM (s + ((as.drop s.toNat).take c.toNat).length + 1) _
      rw [l1, show s + ((c.toNat : Nat) : Int) + 1 = s + c + 1 by omega]
      exact fit_runs hl hs ba bb (by omega) h4 fun r hr => hi r (List.mem_cons_of_mem _ hr)
def spPatchInitM (C CE : Addr) : Sp := fun vs H Q E => ∃ (x dx a : Addr) (xs : List V) (cs : List Ch), vs = [.ref x, .ref a] ∧ H x = some (.ins C dx []) ∧ H a = some (.lst xs) ∧ ChsAt H xs cs ∧ cs.length ≤ 10000 ∧ FitM 0 cs ∧
  (cs.length ≤ 500 → ∀ H', SameB x H H' → (∃ t ys, H' x = some (.ins C dx [("changes", .ref t)]) ∧ H' t = some (.tup ys) ∧ ChsAt H' ys cs) → Q .non H') ∧ (500 < cs.length → E (.ref CE) none H)
def spPatchM (C CE : Addr) : Sp := fun vs H Q E => ∃ (a : Addr) (xs : List V) (cs : List Ch), vs = [.ref a] ∧ H a = some (.lst xs) ∧ ChsAt H xs cs ∧ cs.length ≤ 10000 ∧ FitM 0 cs ∧
  (cs.length ≤ 500 → ∀ r H', Same H H' → H r = none → PatchAt C H' r cs → Q (.ref r) H') ∧ (500 < cs.length → ∀ H', Same H H' → E (.ref CE) none H')
theorem conv_patchM {C CE : Addr} : Conv C (spPatchInitM C CE) (spPatchM C CE) := by
  intro vs H Q E ⟨a, xs, cs, e, hA, hC, hl, hF, h1, h2⟩ x dx nx nd ne
  subst e
  have s0 : Same H (upd H dx (.own x)) := same_new nd _
  have nx' : upd H dx (.own x) x = none := by rw [upd_ne ne.symm]; exact nx
  have s1 : Same (upd H dx (.own x)) (upd (upd H dx (.own x)) x (.ins C dx [])) := same_new nx' _
  have s := s0.trans s1
  refine ⟨x, dx, a, xs, cs, rfl, upd_same, s _ _ hA, hC.same s, hl, hF, fun hs H' sb h => ⟨rfl, h1 hs x H' (fun b o hb => sb b o (ne_of_none hb nx) (s b o hb)) nx ?_⟩, fun hs => h2 hs _ s⟩
  obtain ⟨t, ys, e1, e2, e3⟩ := h
  exact ⟨dx, t, ys, e1, e2, e3⟩
end Dw

/-! patches applied, there and back; their bytes -/
namespace Dw
open PySem PySem.Spec PyProof.Rows L2
/-- the rest t, which begins at e, after the changes -/
def appD : Int → List Int → List Ch → List Int
  | _, t, [] => t
  | e, t, c :: r => t.take (c.1 - e).toNat ++ c.2.2 ++ appD (c.1 + c.2.1.length) (t.drop ((c.1 - e).toNat + c.2.1.length)) r
/-- the old parts stand there -/
def OccD : Int → List Int → List Ch → Prop
  | _, _, [] => True
  | e, t, c :: r => e ≤ c.1 ∧ (c.1 - e).toNat + c.2.1.length ≤ t.length ∧ (t.drop (c.1 - e).toNat).take c.2.1.length = c.2.1 ∧ OccD (c.1 + c.2.1.length) (t.drop ((c.1 - e).toNat + c.2.1.length)) r
theorem take_app3 {a b c : List Int} {k : Nat} (h : a.length = k) : (a ++ b ++ c).take k = a ∧ (a ++ b ++ c).drop k = b ++ c ∧ (a ++ b ++ c).drop (k + b.length) = c := by
  subst h
  refine ⟨by rw [List.append_assoc, List.take_left], by rw [List.append_assoc, List.drop_left], ?_⟩
  rw [← List.length_append, List.drop_left]
theorem opp_app : ∀ (cs : List Ch) (e s : Int) (t : List Int), OccD e t cs → OccD (e + s) (appD e t cs) (opp s cs) ∧ appD (e + s) (appD e t cs) (opp s cs) = t
  | [], e, s, t, _ => ⟨trivial, rfl⟩
  | c :: r, e, s, t, h => by
    obtain ⟨h1, h2, h3, h4⟩ := h
    have ih := opp_app r (c.1 + c.2.1.length) (s + c.2.2.length - c.2.1.length) (t.drop ((c.1 - e).toNat + c.2.1.length)) h4
    have ek : (t.take (c.1 - e).toNat).length = (c.1 - e).toNat := by rw [List.length_take]; omega
    obtain ⟨q1, q2, q3⟩ := take_app3 (b := c.2.2) (c := appD (c.1 + c.2.1.length) (t.drop ((c.1 - e).toNat + c.2.1.length)) r) ek
    have e1 : c.1 + s - (e + s) = c.1 - e := by omega
    have e2 : c.1 + s + (c.2.2.length : Int) = c.1 + c.2.1.length + (s + c.2.2.length - c.2.1.length) := by omega
    have ht : t.take (c.1 - e).toNat ++ c.2.1 ++ t.drop ((c.1 - e).toNat + c.2.1.length) = t := by
      have a1 : c.2.1 ++ t.drop ((c.1 - e).toNat + c.2.1.length) = t.drop (c.1 - e).toNat := by
        rw [← List.drop_drop, ← h3, List.length_take, List.length_drop, Nat.min_eq_left (by omega), List.take_append_drop]
      rw [List.append_assoc, a1, List.take_append_drop]
    refine ⟨⟨by show e + s ≤ c.1 + s; omega, ?_, ?_, ?_⟩, ?_⟩
    · show (c.1 + s - (e + s)).toNat + c.2.2.length ≤ (appD e t (c :: r)).length
      rw [e1]
      show _ ≤ (t.take (c.1 - e).toNat ++ c.2.2 ++ _).length
      rw [List.length_append, List.length_append, ek]
      omega
    · show ((appD e t (c :: r)).drop (c.1 + s - (e + s)).toNat).take c.2.2.length = c.2.2
      rw [e1]
      show ((t.take (c.1 - e).toNat ++ c.2.2 ++ _).drop (c.1 - e).toNat).take c.2.2.length = c.2.2
      rw [q2, List.take_left]
    · show OccD (c.1 + s + (c.2.2.length : Int)) ((appD e t (c :: r)).drop ((c.1 + s - (e + s)).toNat + c.2.2.length)) (opp (s + c.2.2.length - c.2.1.length) r)
      rw [e1, e2]
      show OccD _ ((t.take (c.1 - e).toNat ++ c.2.2 ++ _).drop ((c.1 - e).toNat + c.2.2.length)) _
      rw [q3]
      exact ih.1
    · show (appD e t (c :: r)).take (c.1 + s - (e + s)).toNat ++ c.2.1 ++ appD (c.1 + s + (c.2.2.length : Int)) ((appD e t (c :: r)).drop ((c.1 + s - (e + s)).toNat + c.2.2.length)) (opp (s + c.2.2.length - c.2.1.length) r) = t
      rw [e1, e2]
      show (t.take (c.1 - e).toNat ++ c.2.2 ++ _).take (c.1 - e).toNat ++ c.2.1 ++ appD _ ((t.take (c.1 - e).toNat ++ c.2.2 ++ _).drop ((c.1 - e).toNat + c.2.2.length)) _ = t
      rw [q1, q3, ih.2]
      exact ht
/-! the difference -/
theorem cpl_comm : ∀ a b : List Int, cpl a b = cpl b a
  | [], [] => rfl
  | [], _ :: _ => rfl
  | _ :: _, [] => rfl
  | a :: as, b :: bs => by
    unfold cpl
    rw [cpl_comm as bs]
    by_cases h : a = b
    · rw [if_pos h, if_pos h.symm]
    · rw [if_neg h, if_neg (Ne.symm h)]
theorem cel_comm (a b : List Int) : cel a b = cel b a := by
  unfold cel
  rw [cpl_comm a b, cpl_comm (a.drop (cpl b a)).reverse]
theorem mid_comm (a b : List Int) : midl a b = midr b a := by
  unfold midl midr
  rw [cpl_comm a b, cel_comm a b]
def diffZ (a b : List Int) : List Ch := if a = b then [] else [((cpl a b : Nat), midl a b, midr a b)]
theorem diffZ_opp (a b : List Int) : opp 0 (diffZ a b) = diffZ b a := by
  unfold diffZ
  by_cases h : a = b
  · rw [if_pos h, if_pos h.symm]; rfl
  · rw [if_neg h, if_neg (Ne.symm h)]
    show [(((cpl a b : Nat) : Int) + 0, midr a b, midl a b)] = _
    rw [Int.add_zero, mid_comm a b, ← mid_comm b a, cpl_comm a b]
theorem tail_eq (a b : List Int) : a.drop (a.length - cel a b) = b.drop (b.length - cel a b) := by
  have h1 := cel_le a b
  have l1 := cpl_le a b
  have t2 : (a.drop (cpl a b)).reverse.take (cel a b) = (b.drop (cpl a b)).reverse.take (cel a b) := cpl_take
  have t3 := congrArg List.reverse t2
  rw [take_rev (by rw [List.length_drop]; omega), take_rev (by rw [List.length_drop]; omega), List.length_drop, List.length_drop, List.drop_drop, List.drop_drop] at t3
  rw [show cpl a b + (a.length - cpl a b - cel a b) = a.length - cel a b by omega, show cpl a b + (b.length - cpl a b - cel a b) = b.length - cel a b by omega] at t3
  exact t3
theorem diffZ_app (a b : List Int) : OccD 0 a (diffZ a b) ∧ appD 0 a (diffZ a b) = b := by
  unfold diffZ
  by_cases h : a = b
  · rw [if_pos h]; exact ⟨trivial, h⟩
  · rw [if_neg h]
    have h1 := cel_le a b
    have l1 := cpl_le a b
    have t1 : a.take (cpl a b) = b.take (cpl a b) := cpl_take
    have ez : (((cpl a b : Nat) : Int) - 0).toNat = cpl a b := by omega
    have ll : (midl a b).length = a.length - cpl a b - cel a b := by unfold midl; rw [List.length_take, List.length_drop]; omega
    have lr : (midr a b).length = b.length - cpl a b - cel a b := by unfold midr; rw [List.length_take, List.length_drop]; omega
    refine ⟨⟨by show (0 : Int) ≤ ((cpl a b : Nat) : Int); omega, ?_, ?_, trivial⟩, ?_⟩
    · show (((cpl a b : Nat) : Int) - 0).toNat + (midl a b).length ≤ a.length
      rw [ez, ll]; omega
    · show (a.drop (((cpl a b : Nat) : Int) - 0).toNat).take (midl a b).length = midl a b
      rw [ez, ll]; rfl
    · show a.take (((cpl a b : Nat) : Int) - 0).toNat ++ midr a b ++ a.drop ((((cpl a b : Nat) : Int) - 0).toNat + (midl a b).length) = b
      rw [ez, ll, t1, show cpl a b + (a.length - cpl a b - cel a b) = a.length - cel a b by omega, tail_eq a b]
      unfold midr
      rw [show b.length - cel a b = cpl a b + (b.length - cpl a b - cel a b) by omega, ← List.drop_drop, List.append_assoc, List.take_append_drop, List.take_append_drop]
/-! the fine difference -/
/-- the runs hold all places from e on that differ -/
def Cov (as bs : List Int) (e : Int) (rs : List Rn) : Prop := ∀ i : Nat, e ≤ i → as.getD i 0 ≠ bs.getD i 0 → ∃ r ∈ rs, r.1 ≤ i ∧ (i : Int) < r.1 + r.2
theorem cov_step {d : Int → Prop} {rs : List Rn} {p : Int} {i : Int} (ok : RunsOk d 0 rs) (h : (∃ r ∈ rs, r.1 ≤ i ∧ i < r.1 + r.2) ∨ i = p) : ∃ r ∈ stepC rs p, r.1 ≤ i ∧ i < r.1 + r.2 := by
  rcases snoc_cases rs with rfl | ⟨pre, ⟨s, c⟩, rfl⟩
  · rcases h with ⟨r, hr, _⟩ | h
    · cases hr
    · exact ⟨(p, 1), List.mem_singleton.mpr rfl, by show p ≤ i; omega, by show i < p + 1; omega⟩
  · rw [stepC_app]
    have hc := ok.last
    split
    · rename_i e
      rcases h with ⟨r, hr, h1, h2⟩ | h
      · rcases List.mem_append.mp hr with q | q
        · exact ⟨r, List.mem_append_left _ q, h1, h2⟩
        · rw [List.mem_singleton.mp q] at h1 h2
          exact ⟨(s, c + 1), List.mem_append_right _ (List.mem_singleton.mpr rfl), h1, by show i < s + (c + 1); have h2 : i < s + c := h2; omega⟩
      · exact ⟨(s, c + 1), List.mem_append_right _ (List.mem_singleton.mpr rfl), by show s ≤ i; omega, by show i < s + (c + 1); omega⟩
    · rcases h with ⟨r, hr, h1, h2⟩ | h
      · exact ⟨r, List.mem_append_left _ hr, h1, h2⟩
      · exact ⟨(p, 1), List.mem_append_right _ (List.mem_singleton.mpr rfl), by show p ≤ i; omega, by show i < p + 1; omega⟩
theorem places_cov (as bs : List Int) : ∀ (n i : Nat), i < n → as.getD i 0 ≠ bs.getD i 0 → ∃ r ∈ runsZ (placesN as bs n), r.1 ≤ (i : Int) ∧ (i : Int) < r.1 + r.2
  | 0, i, h, _ => absurd h (Nat.not_lt_zero _)
  | n + 1, i, h, hd => by
    rw [placesN_more]
    have ok := (places_ok as bs n).1
    by_cases hi : i < n
    · have ih := places_cov as bs n i hi hd
      split
      · rw [runsZ_more]
        exact cov_step ok (.inl ih)
      · exact ih
    · have e : i = n := by omega
      subst e
      rw [if_pos (by unfold neqP; exact decide_eq_true hd), runsZ_more]
      exact cov_step ok (.inr rfl)
theorem RunsOk.ge {d : Int → Prop} : ∀ {rs : List Rn} {lo : Int}, RunsOk d lo rs → ∀ r ∈ rs, lo ≤ r.1
  | (s, c) :: q, lo, h, r, hr => by
    obtain ⟨h1, h2, h3, h4⟩ := h
    rcases List.mem_cons.mp hr with e | e
    · rw [e]; exact h1
    · have := RunsOk.ge h4 r e
      omega
theorem eq_by_get {as bs : List Int} (hl : as.length = bs.length) {e k : Nat} (h : ∀ i, e ≤ i → i < e + k → as.getD i 0 = bs.getD i 0) : (as.drop e).take k = (bs.drop e).take k := by
  apply List.ext_getElem?
  intro j
  by_cases hj : j < k
  · rw [List.getElem?_take_of_lt hj, List.getElem?_take_of_lt hj, List.getElem?_drop, List.getElem?_drop]
    have hq := h (e + j) (by omega) (by omega)
    by_cases hb : e + j < as.length
    · rw [List.getD_eq_getElem?_getD, List.getD_eq_getElem?_getD, List.getElem?_eq_getElem hb, List.getElem?_eq_getElem (show e + j < bs.length by omega)] at hq
      rw [List.getElem?_eq_getElem hb, List.getElem?_eq_getElem (show e + j < bs.length by omega)]
      exact congrArg some hq
    · rw [List.getElem?_eq_none (by omega), List.getElem?_eq_none (by omega)]
  · rw [List.getElem?_eq_none (by rw [List.length_take]; omega), List.getElem?_eq_none (by rw [List.length_take]; omega)]
theorem fine_app {as bs : List Int} (hl : as.length = bs.length) {d : Int → Prop} : ∀ (rs : List Rn) (e : Nat) (lo : Int), (e : Int) ≤ lo → RunsOk d lo rs → RunsIn as.length rs → Cov as bs e rs → e ≤ as.length → OccD e (as.drop e) (rs.map (chOf as bs)) ∧ appD e (as.drop e) (rs.map (chOf as bs)) = bs.drop e
  | [], e, lo, _, _, _, hc, he => by
    refine ⟨trivial, ?_⟩
    have q := eq_by_get (e := e) (k := as.length - e) hl fun i h1 _ => Classical.byContradiction fun n => by
      obtain ⟨r, hr, _⟩ := hc i (by omega) n
      cases hr
    rw [List.take_of_length_le (by rw [List.length_drop]; omega), List.take_of_length_le (by rw [List.length_drop]; omega)] at q
    exact q
  | (s, c) :: r, e, lo, hlo, ok, hin, hc, he => by
    obtain ⟨h1, h2, h3, h4⟩ := ok
    have h5 : s + c ≤ as.length := hin (s, c) List.mem_cons_self
    obtain ⟨n, rfl⟩ := Int.eq_ofNat_of_zero_le (show 0 ≤ s by omega)
    obtain ⟨m, rfl⟩ := Int.eq_ofNat_of_zero_le (show 0 ≤ c by omega)
    have hen : e ≤ n := by omega
    have l1 : ((as.drop n).take m).length = m := by rw [List.length_take, List.length_drop]; omega
    have ih := fine_app hl r (n + m) ((n : Int) + (m : Int) + 1) (by omega) h4 (fun r hr => hin r (List.mem_cons_of_mem _ hr)) (fun i hi hd => by
      obtain ⟨q, hq, g1, g2⟩ := hc i (by omega) hd
      rcases List.mem_cons.mp hq with z | z
      · rw [z] at g2
        have g2 : (i : Int) < (n : Int) + (m : Int) := g2
        omega
      · exact ⟨q, z, g1, g2⟩) (by omega)
    have eq1 : (as.drop e).take (n - e) = (bs.drop e).take (n - e) := eq_by_get hl fun i i1 i2 => Classical.byContradiction fun nn => by
      obtain ⟨q, hq, g1, g2⟩ := hc i (by omega) nn
      rcases List.mem_cons.mp hq with z | z
      · rw [z] at g1
        have g1 : (n : Int) ≤ (i : Int) := g1
        omega
      · have := h4.ge q z
        omega
    have ek : ((n : Int) - (e : Int)).toNat = n - e := by omega
    have en : (n : Int).toNat = n := rfl
    have em : (m : Int).toNat = m := rfl
    have ed : (as.drop e).drop (n - e + m) = as.drop (n + m) := by rw [List.drop_drop, show e + (n - e + m) = n + m by omega]
    show ((e : Int) ≤ (n : Int) ∧ ((n : Int) - (e : Int)).toNat + ((as.drop n).take m).length ≤ (as.drop e).length ∧ ((as.drop e).drop ((n : Int) - (e : Int)).toNat).take ((as.drop n).take m).length = (as.drop n).take m ∧ OccD ((n : Int) + (((as.drop n).take m).length : Int)) ((as.drop e).drop (((n : Int) - (e : Int)).toNat + ((as.drop n).take m).length)) (r.map (chOf as bs))) ∧ (as.drop e).take ((n : Int) - (e : Int)).toNat ++ (bs.drop n).take m ++ appD ((n : Int) + (((as.drop n).take m).length : Int)) ((as.drop e).drop (((n : Int) - (e : Int)).toNat + ((as.drop n).take m).length)) (r.map (chOf as bs)) = bs.drop e
    rw [l1, ek, ed, show (n : Int) + (m : Int) = ((n + m : Nat) : Int) by omega]
    refine ⟨⟨by omega, by rw [List.length_drop]; omega, by rw [List.drop_drop, show e + (n - e) = n by omega], ih.1⟩, ?_⟩
    rw [ih.2, eq1, List.append_assoc, show bs.drop (n + m) = (bs.drop n).drop m by rw [List.drop_drop], List.take_append_drop, show bs.drop n = (bs.drop e).drop (n - e) by rw [List.drop_drop, show e + (n - e) = n by omega], List.take_append_drop]
theorem fineZ_app {as bs : List Int} (hl : as.length = bs.length) : OccD 0 as ((runsZ (placesN as bs as.length)).map (chOf as bs)) ∧ appD 0 as ((runsZ (placesN as bs as.length)).map (chOf as bs)) = bs := by
  obtain ⟨h1, h2, h3, h4⟩ := places_ok as bs as.length
  have h := fine_app hl (runsZ (placesN as bs as.length)) 0 0 (Int.le_refl _) h1 h3 (fun i _ hd => by
    by_cases hi : i < as.length
    · exact places_cov as bs as.length i hi hd
    · refine absurd ?_ hd
      rw [List.getD_eq_getElem?_getD, List.getD_eq_getElem?_getD, List.getElem?_eq_none (by omega), List.getElem?_eq_none (by omega)]) (Nat.zero_le _)
  exact h
/-! bytes of patches -/
def pbZ : Int → List Ch → List Int
  | _, [] => []
  | e, c :: r => digs (c.1 - e).toNat ++ digs c.2.1.length ++ digs c.2.2.length ++ c.2.1 ++ c.2.2 ++ pbZ (c.1 + c.2.1.length) r
/-- small patches -/
def SmallP (cs : List Ch) : Prop := cs.length ≤ 40 ∧ ∀ c ∈ cs, 0 ≤ c.1 ∧ c.1 < 16000 ∧ c.2.1.length ≤ 40 ∧ c.2.2.length ≤ 40 ∧ Bytes c.2.1 ∧ Bytes c.2.2
theorem digs_bytes : ∀ n : Nat, Bytes (digs n) := by
  intro n
  induction n using Nat.strongRecOn with
  | ind n ih =>
    by_cases c : n > 127
    · rw [digs_big c]
      intro v hv
      rcases List.mem_cons.mp hv with e | e
      · rw [e]; omega
      · exact ih (n / 128) (by omega) v e
    · rw [digs_small c]
      intro v hv
      rw [List.mem_singleton.mp hv]
      omega
theorem pbZ_all : ∀ (cs : List Ch) (e : Int), (∀ c ∈ cs, 0 ≤ c.1 ∧ c.1 < 16000 ∧ c.2.1.length ≤ 40 ∧ c.2.2.length ≤ 40 ∧ Bytes c.2.1 ∧ Bytes c.2.2) → 0 ≤ e → Bytes (pbZ e cs) ∧ (pbZ e cs).length ≤ 100 * cs.length
  | [], e, _, _ => ⟨(fun v hv => by cases hv), Nat.le_refl _⟩
  | c :: r, e, h, he => by
    obtain ⟨h1, h2, h3, h4, h5, h6⟩ := h c List.mem_cons_self
    have ih := pbZ_all r (c.1 + c.2.1.length) (fun c hc => h c (List.mem_cons_of_mem _ hc)) (by omega)
    have d1 := digs_len 1 (c.1 - e).toNat (by show _ < 16384; omega)
    have d2 := digs_len 1 c.2.1.length (by show _ < 16384; omega)
    have d3 := digs_len 1 c.2.2.length (by show _ < 16384; omega)
    refine ⟨?_, ?_⟩
    · show Bytes (digs (c.1 - e).toNat ++ digs c.2.1.length ++ digs c.2.2.length ++ c.2.1 ++ c.2.2 ++ pbZ (c.1 + c.2.1.length) r)
      exact (((((digs_bytes _).app (digs_bytes _)).app (digs_bytes _)).app h5).app h6).app ih.1
    · show (digs (c.1 - e).toNat ++ digs c.2.1.length ++ digs c.2.2.length ++ c.2.1 ++ c.2.2 ++ pbZ (c.1 + c.2.1.length) r).length ≤ 100 * (r.length + 1)
      simp only [List.length_append]
      omega
def hdPZ (cs : List Ch) : List Int := [80, 65] ++ digs cs.length
def bodyZ (cs : List Ch) : List Int := hdPZ cs ++ pbZ 0 cs
def bytesP (cs : List Ch) : List Int := bodyZ cs ++ [crcZ (bodyZ cs) / 256, crcZ (bodyZ cs) % 256]
theorem bodyZ_all {cs : List Ch} (h : SmallP cs) : Bytes (bodyZ cs) ∧ (bodyZ cs).length ≤ 4004 ∧ 3 ≤ (bodyZ cs).length := by
  obtain ⟨h1, h2⟩ := h
  obtain ⟨b, l⟩ := pbZ_all cs 0 h2 (Int.le_refl _)
  have d := digs_len 1 cs.length (by show _ < 16384; omega)
  have d2 := lead_digs cs.length []
  have b2 : Bytes [80, 65] := fun v hv => by
    rcases List.mem_cons.mp hv with e | e
    · rw [e]; decide
    · rw [List.mem_singleton.mp e]; decide
  refine ⟨(b2.app (digs_bytes _)).app b, ?_, ?_⟩
  · show ([80, 65] ++ digs cs.length ++ pbZ 0 cs).length ≤ _
    simp only [List.length_append, List.length_cons, List.length_nil]
    omega
  · show 3 ≤ ([80, 65] ++ digs cs.length ++ pbZ 0 cs).length
    simp only [List.length_append, List.length_cons, List.length_nil]
    omega
theorem bytesP_all {cs : List Ch} (h : SmallP cs) : Bytes (bytesP cs) ∧ (bytesP cs).length ≤ 4006 ∧ (bytesP cs).length = (bodyZ cs).length + 2 := by
  obtain ⟨b, l, _⟩ := bodyZ_all h
  have c := crcZ_nn (bodyZ cs)
  have b2 : Bytes [crcZ (bodyZ cs) / 256, crcZ (bodyZ cs) % 256] := fun v hv => by
    rcases List.mem_cons.mp hv with e | e
    · rw [e]; omega
    · rw [List.mem_singleton.mp e]; omega
  have e : (bytesP cs).length = (bodyZ cs).length + 2 := by
    show (bodyZ cs ++ _).length = _
    rw [List.length_append]
    rfl
  exact ⟨b.app b2, by omega, e⟩
/-- a cut at k of what is written: what stands in front, the changes behind -/
theorem pbZ_more (pre : List Int) (e : Int) (c : Ch) (r : List Ch) : pre ++ pbZ e (c :: r) = (pre ++ digs (c.1 - e).toNat ++ digs c.2.1.length ++ digs c.2.2.length ++ c.2.1 ++ c.2.2) ++ pbZ (c.1 + c.2.1.length) r := by
  show pre ++ (digs (c.1 - e).toNat ++ digs c.2.1.length ++ digs c.2.2.length ++ c.2.1 ++ c.2.2 ++ pbZ (c.1 + c.2.1.length) r) = _
  simp only [List.append_assoc]
theorem opp_small {cs : List Ch} (h : SmallP cs) (hz : ∀ c ∈ opp 0 cs, 0 ≤ c.1 ∧ c.1 < 16000) : SmallP (opp 0 cs) := by
  refine ⟨by rw [opp_len]; exact h.1, fun c hc => ?_⟩
  have key : ∀ (cs : List Ch) (s : Int), (∀ c ∈ cs, 0 ≤ c.1 ∧ c.1 < 16000 ∧ c.2.1.length ≤ 40 ∧ c.2.2.length ≤ 40 ∧ Bytes c.2.1 ∧ Bytes c.2.2) → ∀ c ∈ opp s cs, c.2.1.length ≤ 40 ∧ c.2.2.length ≤ 40 ∧ Bytes c.2.1 ∧ Bytes c.2.2 := by
    intro cs
    induction cs with
    | nil => intro s _ c hc; cases hc
    | cons d r ih =>
      intro s h c hc
      rcases List.mem_cons.mp hc with e | e
      · subst e
        obtain ⟨h1, h2, h3, h4, h5, h6⟩ := h d List.mem_cons_self
        exact ⟨h4, h3, h6, h5⟩
      · exact ih _ (fun c hc => h c (List.mem_cons_of_mem _ hc)) c e
  exact ⟨(hz c hc).1, (hz c hc).2, key cs 0 h.2 c hc⟩
/-- the places of what stands in a list are within it -/
theorem occ_in : ∀ (cs : List Ch) (e : Int) (t : List Int), 0 ≤ e → OccD e t cs → ∀ c ∈ cs, 0 ≤ c.1 ∧ c.1 + c.2.1.length ≤ e + t.length
  | [], _, _, _, _, c, hc => by cases hc
  | d :: r, e, t, he, h, c, hc => by
    obtain ⟨h1, h2, h3, h4⟩ := h
    rcases List.mem_cons.mp hc with q | q
    · subst q
      omega
    · have := occ_in r (d.1 + d.2.1.length) _ (by omega) h4 c q
      rw [List.length_drop] at this
      omega
theorem FitM.opp : ∀ (cs : List Ch) (l s : Int), FitM l cs → FitM (l + s) (Dw.opp s cs)
  | [], _, _, _ => trivial
  | c :: r, l, s, h => by
    obtain ⟨h1, h2, h3, h4, h5, h6, h7⟩ := h
    refine ⟨by show l + s ≤ c.1 + s; omega, h3, h2, h5, h4, Ne.symm h6, ?_⟩
    have := FitM.opp r _ (s + c.2.2.length - c.2.1.length) h7
    have e : c.1 + (c.2.1.length : Int) + 1 + (s + c.2.2.length - c.2.1.length) = c.1 + s + c.2.2.length + 1 := by omega
    rw [e] at this
    exact this
theorem appD_len : ∀ (cs : List Ch) (e : Int) (t : List Int), (∀ c ∈ cs, c.2.2.length ≤ 40) → (appD e t cs).length ≤ t.length + 40 * cs.length
  | [], e, t, _ => Nat.le_add_right _ _
  | c :: r, e, t, h => by
    have ih := appD_len r (c.1 + c.2.1.length) (t.drop ((c.1 - e).toNat + c.2.1.length)) (fun c hc => h c (List.mem_cons_of_mem _ hc))
    have h1 := h c List.mem_cons_self
    show (t.take (c.1 - e).toNat ++ c.2.2 ++ appD (c.1 + c.2.1.length) (t.drop ((c.1 - e).toNat + c.2.1.length)) r).length ≤ t.length + 40 * (r.length + 1)
    rw [List.length_drop] at ih
    simp only [List.length_append, List.length_take]
    omega
theorem Same.put {G H : Hp} {D : Addr} (s : Same G H) (hD : G D = none) (o : HO) : Same G (upd H D o) := fun b u h => by rw [upd_ne (ne_of_none h hD)]; exact s _ _ h
end Dw

/-! bytes that are a patch, or none -/
namespace Dw
open PySem PySem.Spec PyProof.Rows L2
theorem canon : ∀ (L : List Int), Bytes L → lead L < L.length → ¬ (0 < lead L ∧ L.getD (lead L) 0 = 0) → ∃ n : Nat, valD (L.take (lead L + 1)) = n ∧ L.take (lead L + 1) = digs n ∧ n < 128 ^ (lead L + 1)
  | [], _, h, _ => absurd h (Nat.not_lt_zero _)
  | x :: r, hb, h, hz => by
    have hx := hb x List.mem_cons_self
    by_cases c : x > 127
    · have el : lead (x :: r) = lead r + 1 := by
        show (if x > 127 then lead r + 1 else 0) = _
        rw [if_pos c]
      rw [el] at h hz ⊢
      have hr : lead r < r.length := by rw [List.length_cons] at h; omega
      have hz2 : r.getD (lead r) 0 ≠ 0 := fun e => hz ⟨by omega, by rw [List.getD_cons_succ]; exact e⟩
      obtain ⟨n, h1, h2, h3⟩ := canon r (fun y hy => hb y (List.mem_cons_of_mem _ hy)) hr fun q => hz2 q.2
      have hn : 0 < n := by
        apply Nat.pos_of_ne_zero
        intro e
        subst e
        rw [digs_small (by decide)] at h2
        have hl : (r.take (lead r + 1)).length = 1 := by rw [h2]; rfl
        rw [List.length_take] at hl
        have h0 : lead r = 0 := by omega
        rw [h0] at h2 hz2
        cases r with
        | nil => simp at hr
        | cons y q =>
          have : y = 0 := by
            have := (List.cons.inj h2).1
            exact this
          exact hz2 this
      refine ⟨n * 128 + (x - 128).toNat, ?_, ?_, ?_⟩
      · rw [List.take_succ_cons]
        show valD (r.take (lead r + 1)) * 128 + x % 128 = _
        rw [h1]
        omega
      · rw [List.take_succ_cons, digs_big (n := n * 128 + (x - 128).toNat) (by omega), h2]
        congr 1
        · omega
        · congr 1
          omega
      · rw [Nat.pow_succ]
        omega
    · have el : lead (x :: r) = 0 := by
        show (if x > 127 then lead r + 1 else 0) = _
        rw [if_neg c]
      rw [el]
      refine ⟨x.toNat, ?_, ?_, by show _ < 128; omega⟩
      · show (0 : Int) * 128 + x % 128 = _
        omega
      · rw [digs_small (by omega)]
        show [x] = _
        rw [show ((x.toNat : Nat) : Int) = x by omega]
theorem rd_canon {W : List Int} {i k : Nat} {v : Int} (hb : Bytes W) (h : rdZ W i = some (v, k)) : ∃ n : Nat, v = n ∧ W.take k = W.take i ++ digs n ∧ k ≤ W.length ∧ i < k ∧ n < 128 ^ (k - i) := by
  unfold rdZ at h
  simp only at h
  split at h
  · rename_i hc
    obtain ⟨c1, c2⟩ := hc
    cases h
    have hg : (W.drop i).getD (lead (W.drop i)) 0 = W.getD (i + lead (W.drop i)) 0 := by
      rw [List.getD_eq_getElem?_getD, List.getElem?_drop, ← List.getD_eq_getElem?_getD]
    obtain ⟨n, h1, h2, h3⟩ := canon (W.drop i) (fun y hy => hb y (List.mem_of_mem_drop hy)) (by rw [List.length_drop]; omega) (by rw [hg]; exact c2)
    refine ⟨n, h1, ?_, by omega, by omega, by rw [show i + lead (W.drop i) + 1 - i = lead (W.drop i) + 1 by omega]; exact h3⟩
    rw [show i + lead (W.drop i) + 1 = i + (lead (W.drop i) + 1) by omega, List.take_add, h2]
  · cases h
/-- changes one behind the other, their parts bytes -/
def Chain : Int → List Ch → Prop
  | _, [] => True
  | e, c :: r => e ≤ c.1 ∧ Bytes c.2.1 ∧ Bytes c.2.2 ∧ Chain (c.1 + c.2.1.length) r
def endP : Int → List Ch → Int
  | e, [] => e
  | _, c :: r => endP (c.1 + c.2.1.length) r
theorem endP_snoc : ∀ (cs : List Ch) (e : Int) (c : Ch), endP e (cs ++ [c]) = c.1 + c.2.1.length
  | [], _, _ => rfl
  | d :: r, _, c => endP_snoc r _ c
theorem pbZ_snoc : ∀ (cs : List Ch) (e : Int) (c : Ch), pbZ e (cs ++ [c]) = pbZ e cs ++ (digs (c.1 - endP e cs).toNat ++ digs c.2.1.length ++ digs c.2.2.length ++ c.2.1 ++ c.2.2)
  | [], e, c => by
    show digs (c.1 - e).toNat ++ digs c.2.1.length ++ digs c.2.2.length ++ c.2.1 ++ c.2.2 ++ [] = [] ++ (digs (c.1 - e).toNat ++ digs c.2.1.length ++ digs c.2.2.length ++ c.2.1 ++ c.2.2)
    rw [List.append_nil, List.nil_append]
  | d :: r, e, c => by
    show digs (d.1 - e).toNat ++ digs d.2.1.length ++ digs d.2.2.length ++ d.2.1 ++ d.2.2 ++ pbZ (d.1 + d.2.1.length) (r ++ [c]) = (digs (d.1 - e).toNat ++ digs d.2.1.length ++ digs d.2.2.length ++ d.2.1 ++ d.2.2 ++ pbZ (d.1 + d.2.1.length) r) ++ (digs (c.1 - endP (d.1 + d.2.1.length) r).toNat ++ digs c.2.1.length ++ digs c.2.2.length ++ c.2.1 ++ c.2.2)
    rw [pbZ_snoc r]
    simp only [List.append_assoc]
theorem Chain.snoc : ∀ {cs : List Ch} {e : Int} {c : Ch}, Chain e cs → endP e cs ≤ c.1 → Bytes c.2.1 → Bytes c.2.2 → Chain e (cs ++ [c])
  | [], _, _, _, h1, h2, h3 => ⟨h1, h2, h3, trivial⟩
  | _ :: _, _, _, h, h1, h2, h3 => ⟨h.1, h.2.1, h.2.2.1, Chain.snoc h.2.2.2 h1 h2 h3⟩
theorem endP_ge : ∀ {cs : List Ch} {e : Int}, Chain e cs → e ≤ endP e cs
  | [], _, _ => Int.le_refl _
  | c :: r, e, h => by
    have := endP_ge h.2.2.2
    have h1 := h.1
    show e ≤ endP (c.1 + c.2.1.length) r
    omega
theorem FitM.chain : ∀ {cs : List Ch} {l e : Int}, e ≤ l → FitM l cs → Chain e cs
  | [], _, _, _, _ => trivial
  | c :: r, l, e, he, h => by
    obtain ⟨h1, h2, h3, h4, h5, h6, h7⟩ := h
    exact ⟨by omega, h2, h3, FitM.chain (l := c.1 + c.2.1.length + 1) (by omega) h7⟩
theorem FitM.snoc : ∀ {cs : List Ch} {l : Int} {c : Ch}, FitM l cs → (cs = [] → l ≤ c.1) → (cs ≠ [] → endP 0 cs + 1 ≤ c.1) → Bytes c.2.1 → Bytes c.2.2 → c.2.1.length ≤ 10000 → c.2.2.length ≤ 10000 → c.2.1 ≠ c.2.2 → FitM l (cs ++ [c])
  | [], _, _, _, h1, _, h3, h4, h5, h6, h7 => ⟨h1 rfl, h3, h4, h5, h6, h7, trivial⟩
  | d :: r, l, c, h, _, h2, h3, h4, h5, h6, h7 => by
    obtain ⟨g1, g2, g3, g4, g5, g6, g7⟩ := h
    have h2 := h2 (by simp)
    have he : endP 0 (d :: r) = endP (d.1 + d.2.1.length) r := rfl
    rw [he] at h2
    refine ⟨g1, g2, g3, g4, g5, g6, FitM.snoc g7 (fun e => ?_) (fun e => ?_) h3 h4 h5 h6 h7⟩
    · subst e
      exact h2
    · have : endP 0 r = endP (d.1 + d.2.1.length) r := by
        cases r with
        | nil => exact absurd rfl e
        | cons _ _ => rfl
      rw [this]
      exact h2
def Chn (W : List Int) (cs : List Ch) : Prop := W = bodyZ cs ∧ Chain 0 cs ∧ cs.length ≤ 500
def Good (V : List Int) (cs : List Ch) : Prop := V = bytesP cs ∧ FitM 0 cs ∧ cs.length ≤ 500
theorem pb_parts : ∀ {cs : List Ch} {e : Int} {c : Ch}, c ∈ cs → c.2.1.length ≤ (pbZ e cs).length ∧ c.2.2.length ≤ (pbZ e cs).length
  | d :: r, e, c, h => by
    have hl : (pbZ e (d :: r)).length = (digs (d.1 - e).toNat).length + (digs d.2.1.length).length + (digs d.2.2.length).length + d.2.1.length + d.2.2.length + (pbZ (d.1 + d.2.1.length) r).length := by
      show (digs (d.1 - e).toNat ++ digs d.2.1.length ++ digs d.2.2.length ++ d.2.1 ++ d.2.2 ++ pbZ (d.1 + d.2.1.length) r).length = _
      simp only [List.length_append]
    rcases List.mem_cons.mp h with q | q
    · subst q
      omega
    · have := pb_parts (e := d.1 + d.2.1.length) q
      omega
theorem bodyZ_len (cs : List Ch) : (bodyZ cs).length = 2 + (digs cs.length).length + (pbZ 0 cs).length := by
  show ([80, 65] ++ digs cs.length ++ pbZ 0 cs).length = _
  simp only [List.length_append, List.length_cons, List.length_nil]
theorem bytesP_len (cs : List Ch) : (bytesP cs).length = (bodyZ cs).length + 2 := by
  show (bodyZ cs ++ _).length = _
  rw [List.length_append]
  rfl
theorem bytesP_take (cs : List Ch) : (bytesP cs).take ((bytesP cs).length - 2) = bodyZ cs := by
  rw [bytesP_len, show (bodyZ cs).length + 2 - 2 = (bodyZ cs).length by omega]
  exact List.take_left
theorem bytesP_drop (cs : List Ch) : (bytesP cs).drop ((bytesP cs).length - 2) = [crcZ (bodyZ cs) / 256, crcZ (bodyZ cs) % 256] := by
  rw [bytesP_len, show (bodyZ cs).length + 2 - 2 = (bodyZ cs).length by omega]
  exact List.drop_left
theorem bytesP_of {V : List Int} {cs : List Ch} (h1 : V.take (V.length - 2) = bodyZ cs) (h2 : V.drop (V.length - 2) = [crcZ (V.take (V.length - 2)) / 256, crcZ (V.take (V.length - 2)) % 256]) : V = bytesP cs := by
  have := List.take_append_drop (V.length - 2) V
  rw [← this, h2, h1]
  rfl
/-- the first change of what is left, at a cut -/
theorem chain_at {cs : List Ch} {i : Nat} {c : Ch} (h : cs[i]? = some c) : cs.drop i = c :: cs.drop (i + 1) := by
  rw [List.drop_eq_getElem_cons (List.getElem?_eq_some_iff.mp h).1, (List.getElem?_eq_some_iff.mp h).2]
theorem digs_pos (n : Nat) : 0 < (digs n).length := by
  have := lead_digs n []
  omega
end Dw

/-! defs whose exceptions are caught by a suite that raises -/
namespace Dw
open PySem PySem.Spec PyProof.Rows L2
theorem passLN {X : Cx} : Passes (L2N.CX X.prog X.w) X E0 := fun _ _ _ _ _ _ _ h => by
  obtain ⟨_, _, _, _, _, _, _, _, _, _, _, _, z⟩ := h
  exact z.elim
theorem okN {P : Program} {w : World} {K : PySem.W.Frag} {mg : Str → Option Value} {base : Heap} {x qual : Str} {st : Stmt} {f : Addr} {fd : FuncData} {N ps : List Str} {k : Nat} {sp : Sp} (F : Fun K x qual st f fd) (S : FnScope N ps (defScope st)) (len : ∀ vs H Q E, sp vs H Q E → vs.length = ps.length)
    (hbody : ∀ (cdv : Value) (A : Around) (outer : List Env) (s : Shared) (H : Hp) (vs : List V) (Q : VK) (E : XK), Room k (A.deeper (envOfC qual (defScope st) s.heap.objs.size f cdv)) → sp vs H Q E →
      ∃ t, PSs (cxOf (L2N.CX P w) P w K mg base N qual (defScope st) f cdv A outer s H E) (defBody st) t ∧ t { nx := fun _ H' => Q .non H', rt := Q } (start N vs) H) : FnOk P w K mg base (L2N.CX P w) (k + 1) f fd ps sp := by
  obtain ⟨oc, od, kV, doc, pm, an, cdv, ct, osl, rfl, lk, hcd⟩ := F.ex
  exact fn_of lk hcd S len fun A outer s H vs Q E hr hsp => hbody cdv A outer s H vs Q E hr hsp
end Dw

/-! tuples of ints: slices and + read in one way, whole or not -/
namespace Dw
open PySem PySem.Spec PyProof.Rows L2
def rSlTU : V → Option Int → Option Int → Hp → VK → Prop := fun x lo hi H Q => ∃ (a : Addr) (ns : List Int), x = .ref a ∧ H a = some (.tup (ns.map V.int)) ∧ ∀ q H', Same H H' → H' q = some (.tup ((cutI ns lo hi).map V.int)) → Q (.ref q) H'
theorem sl_tupU {X : Cx} : SlR X rSlTU := SlR.imp sl_tupA fun x lo hi H Q h => by
  obtain ⟨a, ns, e, h1, q⟩ := h
  refine ⟨a, _, e, .of h1, fun hw => q a H (.refl _) ?_, fun _ p hp => q p _ (same_new hp _) (by rw [upd_same, cutV_int])⟩
  rw [List.length_map] at hw
  unfold cutI
  rw [hw.1, hw.2, List.drop_zero, Nat.sub_zero, List.take_length]
  exact h1
def rCatTU : R2 := fun x y H Q => ∃ (a b : Addr) (ns ms : List Int), x = .ref a ∧ y = .ref b ∧ H a = some (.tup (ns.map V.int)) ∧ H b = some (.tup (ms.map V.int)) ∧ ns.length + ms.length ≤ sizeLine ∧ ∀ q H', Same H H' → H' q = some (.tup ((ns ++ ms).map V.int)) → Q (.ref q) H'
theorem op_catU {X : Cx} : OpR X (binaryOp .Add) rCatTU := OpR.imp op_catA fun x y H Q h => by
  obtain ⟨a, b, ns, ms, e1, e2, h1, h2, hl, q⟩ := h
  refine ⟨a, b, _, _, e1, e2, .of h1, .of h2, by rw [List.length_map, List.length_map]; exact hl, fun hx => q b H (.refl _) ?_, fun hx hy => q a H (.refl _) ?_, fun _ _ p hp => q p _ (same_new hp _) (by rw [upd_same, List.map_append])⟩
  · have : ns = [] := by cases ns with | nil => rfl | cons _ _ => cases hx
    subst this
    exact h2
  · have : ms = [] := by cases ms with | nil => rfl | cons _ _ => cases hy
    subst this
    rw [List.append_nil]
    exact h1
theorem cutI_last1 (ns : List Int) : cutI ns (some (-1)) none = ns.drop (ns.length - 1) := by
  unfold cutI
  have h1 : HT.sIx ns.length ns.length none = ns.length := rfl
  have h2 : HT.sIx ns.length 0 (some (-1)) = ns.length - 1 := by
    unfold HT.sIx
    simp
    omega
  rw [h1, h2, List.take_of_length_le (by rw [List.length_drop]; omega)]
end Dw

/-! discs of blocks -/
namespace Dw
open PySem PySem.Spec PyProof.Rows L2
/-- a walk over a list or a tuple -/
def iSeqA (K : PySem.W.Frag) (tl : TE) : TI := fun σ H R => tl σ H fun x H1 => ∃ a xs, x = .ref a ∧ ((SqL K H1 a xs ∧ R (Itl K a) H1) ∨ (SqT K H1 a xs ∧ R (Itt K a) H1))
theorem pi_seqA {X : Cx} {tg l : Expr} {tl : TE} (hl : PE X l tl) : PI X tg l (iSeqA X.K tl) := by
  refine ⟨fun pins s σ H R I h => ?_⟩
  refine thn (hl.run pins s σ H _ I h) fun v s1 ⟨x, H1, I1, r1, q1⟩ => ?_
  obtain ⟨a, xs, e, q⟩ := q1
  subst e
  cases r1
  have fin : ∀ b ∈ [s1.heap.objs.size], b = s1.heap.objs.size := fun b hb => by simpa using hb
  rcases q with ⟨hq, q⟩ | ⟨hq, q⟩
  · obtain ⟨its, rv, p, hz⟩ := I1.list hq
    refine wpAny_pyIter_list p.isList ?_
    refine ⟨s1.heap.objs.size, [s1.heap.objs.size], _, _, H1, rfl, I1.kept (t' := s1.toks) fun b o e => Heap.get?_push_of_some _ e, turn_list a _, ⟨_, Heap.get?_push_size _ rfl, rfl, rfl⟩, fun b hb => ?_, q⟩
    have e := fin b hb
    subst e
    exact I1.fpOk (Nat.le_refl _) (I1.hok.fresh (Nat.le_refl _))
  · obtain ⟨its, rv, p, hz⟩ := I1.tuple hq
    refine wpAny_pyIter_tuple (show s1.heap.IsTuple a its.toArray from p) ?_
    refine ⟨s1.heap.objs.size, [s1.heap.objs.size], _, _, H1, rfl, I1.kept (t' := s1.toks) fun b o e => Heap.get?_push_of_some _ e, turn_tuple a _, ⟨_, Heap.get?_push_size _ rfl, rfl, rfl⟩, fun b hb => ?_, q⟩
    have e := fin b hb
    subst e
    exact I1.fpOk (Nat.le_refl _) (I1.hok.fresh (Nat.le_refl _))
/-- tuple(x) of a list or a tuple -/
def rTupleA (K : PySem.W.Frag) : List V → Hp → VK → Prop := fun xs H Q => ∃ p ys, xs = [.ref p] ∧ ((SqL K H p ys ∧ ∀ l, H l = none → Q (.ref l) (upd H l (.tup ys))) ∨ (SqT K H p ys ∧ Q (.ref p) H))
theorem call_tupleA {X : Cx} : CallR X (.type "tuple") (rTupleA X.K) := call_tuple_of
/-- an expression that is read in one of two ways, whichever the wish takes -/
def tOrE (t1 t2 : TE) : TE := fun σ H Q => t1 σ H Q ∨ t2 σ H Q
theorem pe_or {X : Cx} {e : Expr} {t1 t2 : TE} (h1 : PE X e t1) (h2 : PE X e t2) : PE X e (tOrE t1 t2) := ⟨fun pins s σ H Q I h => h.elim (fun h => h1.run pins s σ H Q I h) (fun h => h2.run pins s σ H Q I h)⟩
/-! ### blocks -/
abbrev Bk := Option (List Int)
/-- a block: None, a list or a tuple of ints -/
def BkAt (H : Hp) (x : V) (b : Bk) : Prop := (x = .non ∧ b = none) ∨ ∃ p ns, x = .ref p ∧ b = some ns ∧ (H p = some (IL ns) ∨ H p = some (.tup (ns.map V.int)))
/-- a block as a disc keeps it -/
def TkAt (H : Hp) (x : V) (b : Bk) : Prop := (x = .non ∧ b = none) ∨ ∃ p ns, x = .ref p ∧ b = some ns ∧ H p = some (.tup (ns.map V.int))
theorem BkAt.same {H H' : Hp} {x : V} {b : Bk} (s : Same H H') (h : BkAt H x b) : BkAt H' x b := by
  rcases h with h | ⟨p, ns, e1, e2, h⟩
  · exact .inl h
  · exact .inr ⟨p, ns, e1, e2, h.imp (s _ _) (s _ _)⟩
theorem TkAt.same {H H' : Hp} {x : V} {b : Bk} (s : Same H H') (h : TkAt H x b) : TkAt H' x b := by
  rcases h with h | ⟨p, ns, e1, e2, h⟩
  · exact .inl h
  · exact .inr ⟨p, ns, e1, e2, s _ _ h⟩
theorem TkAt.bk {H : Hp} {x : V} {b : Bk} (h : TkAt H x b) : BkAt H x b := by
  rcases h with h | ⟨p, ns, e1, e2, h⟩
  · exact .inl h
  · exact .inr ⟨p, ns, e1, e2, .inr h⟩
/-- a list or a tuple of ints -/
def LsAt (H : Hp) (x : V) (ns : List Int) : Prop := ∃ p, x = .ref p ∧ (H p = some (IL ns) ∨ H p = some (.tup (ns.map V.int)))
theorem LsAt.same {H H' : Hp} {x : V} {b : List Int} (s : Same H H') (h : LsAt H x b) : LsAt H' x b := by
  obtain ⟨p, e1, h⟩ := h
  exact ⟨p, e1, h.imp (s _ _) (s _ _)⟩
/-- the blocks that are there -/
def ths (bs : List Bk) : List (List Int) := bs.filterMap id
theorem ths_mem {bs : List Bk} {ns : List Int} : ns ∈ ths bs ↔ some ns ∈ bs := by
  unfold ths
  rw [List.mem_filterMap]
  exact ⟨fun ⟨b, h, e⟩ => by cases e; exact h, fun h => ⟨_, h, rfl⟩⟩
theorem ths_more {bs : List Bk} {i : Nat} {b : Bk} (h : bs[i]? = some b) : ths (bs.take (i + 1)) = match b with | none => ths (bs.take i) | some ns => ths (bs.take i) ++ [ns] := by
  unfold ths
  rw [take_more h, List.filterMap_append]
  cases b with
  | none => simp
  | some ns => simp
theorem all_g {ts : List (List Int)} {z : Nat} : (ts.map fun ns => decide (ns.length = z) && ns.all fun z => decide (0 ≤ z) && decide (z ≤ 255)).all id = true ↔ ∀ ns ∈ ts, ns.length = z ∧ Bytes ns := by
  rw [List.all_map, List.all_eq_true]
  constructor
  · intro h ns hn
    have h2 := h ns hn
    simp only [Function.comp, id, Bool.and_eq_true, decide_eq_true_eq, List.all_eq_true] at h2
    exact ⟨h2.1, fun x hx => by have := h2.2 x hx; omega⟩
  · intro h ns hn
    have h2 := h ns hn
    simp only [Function.comp, id, Bool.and_eq_true, decide_eq_true_eq, List.all_eq_true]
    exact ⟨h2.1, fun x hx => by have := h2.2 x hx; omega⟩
theorem BkAt.upx {H : Hp} {x : Addr} {C dx : Addr} {fs : List (Str × V)} {o : HO} {v : V} {b : Bk} (hx : H x = some (.ins C dx fs)) (h : BkAt H v b) : BkAt (upd H x o) v b := by
  rcases h with h | ⟨p, ns, e1, e2, h⟩
  · exact .inl h
  · have n : p ≠ x := fun q => by subst q; rw [hx] at h; rcases h with h | h <;> cases h
    exact .inr ⟨p, ns, e1, e2, by rw [upd_ne n]; exact h⟩
theorem BkAt.upn {H : Hp} {D : Addr} {o : HO} {v : V} {b : Bk} (n : v ≠ .ref D) (h : BkAt H v b) : BkAt (upd H D o) v b := by
  rcases h with h | ⟨p, ns, e1, e2, h⟩
  · exact .inl h
  · have n2 : p ≠ D := fun q => n (by rw [e1, q])
    exact .inr ⟨p, ns, e1, e2, by rw [upd_ne n2]; exact h⟩
theorem TkAt.ups {D : Addr} {H : Hp} {xs : List V} {o : HO} {x : V} {b : Bk} (hD : H D = some (.lst xs)) (h : TkAt H x b) : TkAt (upd H D o) x b := by
  rcases h with h | ⟨p, ns, e1, e2, h⟩
  · exact .inl h
  · have n : p ≠ D := fun q => by subst q; rw [h] at hD; cases hD
    exact .inr ⟨p, ns, e1, e2, by rw [upd_ne n]; exact h⟩
theorem TkAt.upx {H : Hp} {x : Addr} {C dx : Addr} {fs : List (Str × V)} {o : HO} {v : V} {b : Bk} (hx : H x = some (.ins C dx fs)) (h : TkAt H v b) : TkAt (upd H x o) v b := by
  rcases h with h | ⟨p, ns, e1, e2, h⟩
  · exact .inl h
  · have n : p ≠ x := fun q => by subst q; rw [hx] at h; cases h
    exact .inr ⟨p, ns, e1, e2, by rw [upd_ne n]; exact h⟩
/-- a disc that is right -/
def okSz (z : Nat) : Bool := z == 16 || z == 32 || z == 64 || z == 128 || z == 256 || z == 512
def OkDisc (z : Nat) (bs : List Bk) : Prop := bs.length ≤ 2000 ∧ okSz z = true ∧ (∃ ns, some ns ∈ bs) ∧ ∀ ns, some ns ∈ bs → ns.length = z ∧ Bytes ns
def DiscAt (C : Addr) (H : Hp) (r : Addr) (z : Nat) (bs : List Bk) : Prop := ∃ dx t xs, H r = some (.ins C dx [("size", .int z), ("_blocks", .ref t)]) ∧ H t = some (.tup xs) ∧ AllAt (TkAt H) xs bs
theorem DiscAt.same {C : Addr} {H H' : Hp} {r : Addr} {z : Nat} {bs : List Bk} (s : Same H H') (h : DiscAt C H r z bs) : DiscAt C H' r z bs := by
  obtain ⟨dx, t, xs, h1, h2, h3⟩ := h
  exact ⟨dx, t, xs, s _ _ h1, s _ _ h2, h3.imp fun _ _ h => h.same s⟩
/-! ### zip of two tuples -/
def YZT (xs ys : List V) : Nat → Hp → V → Hp → Prop := fun i H v H' => ∃ T x y, v = .ref T ∧ H T = none ∧ H' = upd H T (.tup [x, y]) ∧ xs[i]? = some x ∧ ys[i]? = some y
theorem walk_zipT {K : PySem.W.Frag} {a b : Addr} {xs ys : List V} {n : Nat} (hn : n = min xs.length ys.length) : Walk (RZ.ItzT K a b) n (fun H => SqT K H a xs ∧ SqT K H b ys) (YZT xs ys) := by
  subst hn
  refine ⟨fun i _ hi q => ?_, fun _ q => ⟨xs, ys, q.1, q.2, by omega⟩, fun i H v H' _ q y => ?_⟩
  · have h1 : i < xs.length := by omega
    have h2 : i < ys.length := by omega
    exact ⟨xs, ys, xs[i], ys[i], q.1, q.2, List.getElem?_eq_getElem h1, List.getElem?_eq_getElem h2⟩
  · obtain ⟨T, x, y, h1, h2, h5, h6, h7⟩ := y
    exact ⟨T, x, y, h1, h2, h5, h6 xs q.1, h7 ys q.2⟩
theorem atI_lastI {ns : List Int} (h : 0 < ns.length) : atI (ns.map V.int) (-1) = some (.int (ns.getD (ns.length - 1) 0)) := by
  have hk : ns.length - 1 < ns.length := by omega
  unfold atI ixN
  rw [List.length_map, if_neg (by decide), if_pos (by omega)]
  show (ns.map V.int)[(-1 + (ns.length : Int)).toNat]? = _
  rw [show (-1 + (ns.length : Int)).toNat = ns.length - 1 by omega, List.getElem?_map, List.getElem?_eq_getElem hk, List.getD_eq_getElem?_getD, List.getElem?_eq_getElem hk]
  rfl
def ascZ (ns : List Int) : Bool := (List.range (ns.length - 1)).all fun i => decide (ns.getD i 0 < ns.getD (i + 1) 0)
/-- a group of a plan for n blocks -/
def okGr (n : Nat) (ns : List Int) : Bool := decide (2 ≤ ns.length) && (ascZ ns && (decide (0 ≤ ns.getD 0 0) && decide (ns.getD (ns.length - 1) 0 < n)))
/-- a tuple of ints -/
def TupI (H : Hp) (v : V) (ns : List Int) : Prop := ∃ p, v = .ref p ∧ H p = some (.tup (ns.map V.int))
theorem TupI.same {H H' : Hp} {v : V} {ns : List Int} (s : Same H H') (h : TupI H v ns) : TupI H' v ns := by
  obtain ⟨p, e, h⟩ := h
  exact ⟨p, e, s _ _ h⟩
def okPlan (n : Nat) (gs : List (List Int)) : Bool := gs.all (okGr n)
def spDiscInit (C CE : Addr) : Sp := fun vs H Q E => ∃ (x dx a : Addr) (xs : List V) (bs : List Bk), vs = [.ref x, .ref a] ∧ H x = some (.ins C dx []) ∧ H a = some (.lst xs) ∧ AllAt (BkAt H) xs bs ∧ bs.length ≤ 10000 ∧ (∀ ns, some ns ∈ bs → ns.length ≤ 10000) ∧
  (∀ z, OkDisc z bs → ∀ H', SameB x H H' → (∃ t ys, H' x = some (.ins C dx [("size", .int z), ("_blocks", .ref t)]) ∧ H' t = some (.tup ys) ∧ AllAt (TkAt H') ys bs) → Q .non H') ∧ ((∀ z, ¬ OkDisc z bs) → ∀ H', Same H H' → E (.ref CE) none H')
def spDisc (C CE : Addr) : Sp := fun vs H Q E => ∃ (a : Addr) (xs : List V) (bs : List Bk), vs = [.ref a] ∧ H a = some (.lst xs) ∧ AllAt (BkAt H) xs bs ∧ bs.length ≤ 10000 ∧ (∀ ns, some ns ∈ bs → ns.length ≤ 10000) ∧
  (∀ z, OkDisc z bs → ∀ r H', Same H H' → H r = none → DiscAt C H' r z bs → Q (.ref r) H') ∧ ((∀ z, ¬ OkDisc z bs) → ∀ H', Same H H' → E (.ref CE) none H')
theorem conv_disc {C CE : Addr} : Conv C (spDiscInit C CE) (spDisc C CE) := by
  intro vs H Q E ⟨a, xs, bs, e, hA, hB, hl, hl2, h1, h2⟩ x dx nx nd ne
  subst e
  have s0 : Same H (upd H dx (.own x)) := same_new nd _
  have nx' : upd H dx (.own x) x = none := by rw [upd_ne ne.symm]; exact nx
  have s1 : Same (upd H dx (.own x)) (upd (upd H dx (.own x)) x (.ins C dx [])) := same_new nx' _
  have s := s0.trans s1
  refine ⟨x, dx, a, xs, bs, rfl, upd_same, s _ _ hA, hB.imp fun _ _ h => BkAt.same s h, hl, hl2, fun z hz H' sb h => ⟨rfl, h1 z hz x H' (fun b o hb => sb b o (ne_of_none hb nx) (s b o hb)) nx ?_⟩, fun hz H' hs => h2 hz _ (s.trans hs)⟩
  obtain ⟨t, ys, e1, e2, e3⟩ := h
  exact ⟨dx, t, ys, e1, e2, e3⟩
/-! ### discs in work -/
def WorkAt (C : Addr) (H : Hp) (r d m : Addr) (kvs : List (Key × V)) : Prop := ∃ dx, H r = some (.ins C dx [("disc", .ref d), ("_changed", .ref m)]) ∧ H m = some (.dK kvs)
/-- what a disc in work gives for each block: ws -/
def WorkBs (C CB : Addr) (H : Hp) (r d m : Addr) (kvs : List (Key × V)) (z : Nat) (ws : List Bk) : Prop := ∃ bs : List Bk, WorkAt C H r d m kvs ∧ DiscAt CB H d z bs ∧ ws.length = bs.length ∧
  ∀ i < bs.length, (∃ a ns, valV kvs (.inl (i : Int)) = some (.ref a) ∧ H a = some (IL ns) ∧ ws[i]? = some (some ns)) ∨ (valV kvs (.inl (i : Int)) = none ∧ ws[i]? = bs[i]?)
theorem WorkBs.same {C CB : Addr} {H H' : Hp} {r d m : Addr} {kvs : List (Key × V)} {z : Nat} {ws : List Bk} (s : Same H H') (h : WorkBs C CB H r d m kvs z ws) : WorkBs C CB H' r d m kvs z ws := by
  obtain ⟨bs, ⟨dx, h1, h2⟩, h3, h4, h5⟩ := h
  refine ⟨bs, ⟨dx, s _ _ h1, s _ _ h2⟩, h3.same s, h4, fun i hi => ?_⟩
  rcases h5 i hi with ⟨a, ns, e1, e2, e3⟩ | h
  · exact .inl ⟨a, ns, e1, s _ _ e2, e3⟩
  · exact .inr h
def spWorkBlock (C CB : Addr) : Sp := fun vs H Q _ => ∃ (x d m : Addr) (kvs : List (Key × V)) (z : Nat) (ws : List Bk) (i : Nat) (b : Bk), vs = [.ref x, .int i] ∧ WorkBs C CB H x d m kvs z ws ∧ ws[i]? = some b ∧
  (b = none → Q .non H) ∧ (∀ ns, b = some ns → ∀ D, H D = none → Q (.ref D) (upd H D (IL ns)))
theorem DiscAt.sameD {C : Addr} {H H' : Hp} {r m : Addr} {z : Nat} {bs : List Bk} {kvs : List (Key × V)} (hm : H m = some (.dK kvs)) (s : SameB m H H') (h : DiscAt C H r z bs) : DiscAt C H' r z bs := by
  obtain ⟨dx, t, xs, h1, h2, h3⟩ := h
  have n1 : r ≠ m := fun e => by subst e; rw [h1] at hm; cases hm
  have n2 : t ≠ m := fun e => by subst e; rw [h2] at hm; cases hm
  refine ⟨dx, t, xs, s _ _ n1 h1, s _ _ n2 h2, h3.imp fun v b h => ?_⟩
  rcases h with h | ⟨p, ns, e1, e2, h⟩
  · exact .inl h
  · have n3 : p ≠ m := fun e => by subst e; rw [h] at hm; cases hm
    exact .inr ⟨p, ns, e1, e2, s _ _ n3 h⟩
theorem WorkBs.new {C CB : Addr} {H : Hp} {r d m dx : Addr} {z : Nat} {bs : List Bk} (h1 : H r = some (.ins C dx [("disc", .ref d), ("_changed", .ref m)])) (h2 : H m = some (.dK [])) (h3 : DiscAt CB H d z bs) : WorkBs C CB H r d m [] z bs :=
  ⟨bs, ⟨dx, h1, h2⟩, h3, rfl, fun i hi => .inr ⟨rfl, rfl⟩⟩
theorem WorkBs.put {C CB : Addr} {H H' : Hp} {r d m l : Addr} {kvs : List (Key × V)} {z : Nat} {ws : List Bk} {i : Nat} {ns : List Int} (h : WorkBs C CB H r d m kvs z ws) (hi : i < ws.length) (hl : H l = none) (sb : SameB m H H') (e1 : H' l = some (IL ns))
    (e2 : H' m = some (.dK (putK kvs (.inl (i : Int)) (.ref l)))) : WorkBs C CB H' r d m (putK kvs (.inl (i : Int)) (.ref l)) z (ws.set i (some ns)) := by
  obtain ⟨bs, ⟨dx, h1, h2⟩, h3, h4, h5⟩ := h
  have n1 : r ≠ m := fun e => by subst e; rw [h1] at h2; cases h2
  refine ⟨bs, ⟨dx, sb _ _ n1 h1, e2⟩, h3.sameD h2 sb, by rw [List.length_set, h4], fun j hj => ?_⟩
  by_cases c : i = j
  · subst c
    refine .inl ⟨l, ns, by rw [valV_put, if_pos rfl], e1, ?_⟩
    rw [List.getElem?_set_self hi]
  · have c2 : ¬ (Sum.inl (j : Int) : Key) = Sum.inl (i : Int) := fun e => c (by have := Sum.inl.inj e; omega)
    rw [valV_put, if_neg c2, List.getElem?_set_ne c]
    rcases h5 j hj with ⟨a, ms, q1, q2, q3⟩ | q
    · have n2 : a ≠ m := fun e => by subst e; rw [q2] at h2; cases h2
      exact .inl ⟨a, ms, q1, sb _ _ n2 q2, q3⟩
    · exact .inr q
/-- the places of the blocks that are missing -/
def missZ (bs : List Bk) (n : Nat) : List Int := ((List.range n).filter fun i => decide (bs[i]? = some none)).map fun i : Nat => (i : Int)
theorem missZ_more (bs : List Bk) (n : Nat) : missZ bs (n + 1) = if bs[n]? = some none then missZ bs n ++ [(n : Int)] else missZ bs n := by
  unfold missZ
  rw [List.range_succ, List.filter_append, List.map_append]
  split
  · rename_i e
    simp [e]
  · rename_i e
    simp [e]
theorem missZ_len (bs : List Bk) (n : Nat) : (missZ bs n).length ≤ n := by
  unfold missZ
  rw [List.length_map]
  have := List.length_filter_le (fun i => decide (bs[i]? = some none)) (List.range n)
  rw [List.length_range] at this
  exact this
theorem okGr_of {n : Nat} {ns : List Int} (hp : ns.Pairwise (· < ·)) (hb : ∀ v ∈ ns, 0 ≤ v ∧ v < n) (h2 : 2 ≤ ns.length) : okGr n ns = true := by
  have g : ∀ i (h : i < ns.length), ns.getD i 0 = ns[i] := fun i h => by rw [List.getD_eq_getElem?_getD, List.getElem?_eq_getElem h]; rfl
  unfold okGr
  rw [decide_eq_true h2, Bool.true_and]
  have ha : ascZ ns = true := by
    unfold ascZ
    rw [List.all_eq_true]
    intro i hi
    have hi := List.mem_range.mp hi
    rw [decide_eq_true_eq, g i (by omega), g (i + 1) (by omega)]
    exact List.pairwise_iff_getElem.mp hp i (i + 1) (by omega) (by omega) (by omega)
  rw [ha, Bool.true_and, g 0 (by omega), g (ns.length - 1) (by omega), decide_eq_true (hb _ (List.getElem_mem _)).1, Bool.true_and, decide_eq_true (hb _ (List.getElem_mem _)).2]
theorem TupI.ups {D : Addr} {H : Hp} {xs : List V} {o : HO} {v : V} {ns : List Int} (hD : H D = some (.lst xs)) (h : TupI H v ns) : TupI (upd H D o) v ns := by
  obtain ⟨p, e, h⟩ := h
  have n : p ≠ D := fun q => by subst q; rw [h] at hD; cases hD
  exact ⟨p, e, by rw [upd_ne n]; exact h⟩
theorem TupI.pool {H H' : Hp} {p q : Addr} {v : V} {ns : List Int} (hP : Pool H p q) (s : SameB p H H') (h : TupI H v ns) : TupI H' v ns := by
  obtain ⟨t, e, h⟩ := h
  have n : t ≠ p := fun z => by
    subst z
    obtain ⟨a, b, c, d, ns, h1, _⟩ := hP
    rw [h] at h1
    cases h1
  exact ⟨t, e, s _ _ n h⟩
theorem okPlan_app {n : Nat} {gs : List (List Int)} {g : List Int} (h : okPlan n gs = true) (hg : okGr n g = true) : okPlan n (gs ++ [g]) = true := by
  unfold okPlan at *
  rw [List.all_append, h, Bool.true_and]
  simp [hg]
end Dw

/-! comprehensions over any walk: what is made, item by item -/
namespace Dw
open PySem PySem.Spec PyProof.Rows L2
theorem lc_all {α : Type} {J : It} {n : Nat} {G : Hp → Prop} {Y : Nat → Hp → V → Hp → Prop} (w : Walk J n G Y) {g : TG} {te : TE} {vs : List Nat} {σ : L2.St} {H1 : Hp} {D : Addr} {Qd : Hp → Prop} (R : Hp → V → α → Prop) (ss : List α)
    (hn : n ≤ 16777215) (hD : H1 D = none) (hl : ss.length = n) (hG : ∀ H', Same H1 H' → G H')
    (hR : ∀ H H' v s, Same H H' → R H v s → R H' v s)
    (hu : ∀ H ys v s o, H D = some (.lst ys) → v ≠ .ref D → R H v s → R (L2.upd H D o) v s)
    (hte : ∀ i x s H3 H' (Q' : VK) ys, i < n → Y i H3 x H' → ss[i]? = some s → Same H1 H3 → H3 D = some (.lst ys) → (∀ y H4, Same H3 H4 → y ≠ .ref D → R H4 y s → Q' y H4) → g x (wipe σ vs) H' fun σ2 H2 => wipe σ2 vs = wipe σ vs ∧ te σ2 H2 Q')
    (hd : ∀ ys H', Same H1 H' → H' D = some (.lst ys) → AllAt (R H') ys ss → Qd H') : LcW J g tYes te vs σ H1 D Qd := by
  refine lc_it w (fun i H' => Same H1 H' ∧ ∃ ys, H' D = some (.lst ys) ∧ AllAt (fun v s => R H' v s ∧ v ≠ .ref D) ys (ss.take i)) ⟨same_new hD _, [], upd_same, .nil⟩ (fun i H' _ h => hG H' h.1) ?_ ?_
  · intro i x H3 H' hi h hy
    obtain ⟨s1, ys, e1, hys⟩ := h
    have hs : ss[i]? = some (ss[i]'(by omega)) := List.getElem?_eq_getElem (by omega)
    have hyl := hys.1
    rw [List.length_take] at hyl
    simp only [tYes, if_true]
    refine hte i x _ H3 H' _ ys hi hy hs s1 e1 fun y H4 s4 hy4 hr => ?_
    refine ⟨ys, s4 _ _ e1, line_lt (by omega), fun b o hb => by rw [upd_ne (ne_of_none hb hD)]; exact s4 _ _ (s1 b o hb), ys ++ [y], upd_same, ?_⟩
    rw [take_more hs]
    exact (hys.imp fun v s h => ⟨hu _ _ _ _ _ (s4 _ _ e1) h.2 (hR _ _ _ _ s4 h.1), h.2⟩).push ⟨hu _ _ _ _ _ (s4 _ _ e1) hy4 hr, hy4⟩
  · intro H' h
    obtain ⟨s1, ys, e1, hys⟩ := h
    rw [← hl, List.take_length] at hys
    exact hd ys H' s1 e1 (hys.imp fun _ _ h => h.1)
/-- the same where the pool is drawn from -/
theorem lc_allP {α : Type} {J : It} {n : Nat} {G : Hp → Prop} {Y : Nat → Hp → V → Hp → Prop} (w : Walk J n G Y) {p q : Addr} {g : TG} {te : TE} {vs : List Nat} {σ : L2.St} {H1 : Hp} {D : Addr} {Qd : Hp → Prop} (R : Hp → V → α → Prop) (T : Nat → α → Prop)
    (hn : n ≤ 16777215) (hP : Pool H1 p q) (hD : H1 D = none) (hG : ∀ H', SameB p H1 H' → G H')
    (hR : ∀ H H' v s, Pool H p q → SameB p H H' → R H v s → R H' v s)
    (hu : ∀ H ys v s o, H D = some (.lst ys) → v ≠ .ref D → R H v s → R (L2.upd H D o) v s)
    (hte : ∀ i x H3 H' (Q' : VK) ys, i < n → Y i H3 x H' → Pool H3 p q → SameB p H1 H3 → H3 D = some (.lst ys) → p ≠ D → (∀ y s H4, T i s → Pool H4 p q → SameB p H3 H4 → y ≠ .ref D → R H4 y s → Q' y H4) → g x (wipe σ vs) H' fun σ2 H2 => wipe σ2 vs = wipe σ vs ∧ te σ2 H2 Q')
    (hd : ∀ ys ss H', Pool H' p q → SameB p H1 H' → H' D = some (.lst ys) → ss.length = n → (∀ (i : Nat) s, ss[i]? = some s → T i s) → AllAt (R H') ys ss → Qd H') : LcW J g tYes te vs σ H1 D Qd := by
  have hDp : p ≠ D := hP.ne hD
  have hDq : q ≠ D := hP.ne2 hD
  refine lc_it w (fun i H' => Pool H' p q ∧ SameB p H1 H' ∧ ∃ ys ss, H' D = some (.lst ys) ∧ ss.length = i ∧ (∀ (i : Nat) s, ss[i]? = some s → T i s) ∧ AllAt (fun v s => R H' v s ∧ v ≠ .ref D) ys ss) ⟨hP.upd hD, Same.b (same_new hD _), [], [], upd_same, rfl, fun i s h => by simp at h, .nil⟩ (fun i H' _ h => hG H' h.2.1) ?_ ?_
  · intro i x H3 H' hi h hy
    obtain ⟨hP3, s1, ys, ss, e1, hsl, hT, hys⟩ := h
    have hyl := hys.1
    simp only [tYes, if_true]
    refine hte i x H3 H' _ ys hi hy hP3 s1 e1 hDp fun y s H4 hTs hP4 s4 hy4 hr => ?_
    have e4 := s4 _ _ hDp.symm e1
    refine ⟨ys, e4, line_lt (by omega), hP4.ups hDp hDq, fun b o hn hb => by rw [upd_ne (ne_of_none hb hD)]; exact s4 _ _ hn (s1 b o hn hb), ys ++ [y], ss ++ [s], upd_same, by rw [List.length_append, hsl]; rfl, ?_, ?_⟩
    · intro j t hj
      by_cases c : j < ss.length
      · rw [List.getElem?_append_left c] at hj
        exact hT j t hj
      · have hj2 := (List.getElem?_eq_some_iff.mp hj).1
        rw [List.length_append] at hj2
        simp only [List.length_cons, List.length_nil] at hj2
        have e : j = ss.length := by omega
        subst e
        rw [List.getElem?_append_right (Nat.le_refl _), Nat.sub_self] at hj
        cases hj
        rw [hsl]
        exact hTs
    · exact (hys.imp fun v s h => ⟨hu _ _ _ _ _ e4 h.2 (hR _ _ _ _ hP3 s4 h.1), h.2⟩).push ⟨hu _ _ _ _ _ e4 hy4 hr, hy4⟩
  · intro H' h
    obtain ⟨hP3, s1, ys, ss, e1, hsl, hT, hys⟩ := h
    exact hd ys ss H' hP3 s1 e1 hsl hT (hys.imp fun _ _ h => h.1)
theorem AllAt.get {α : Type} {R : V → α → Prop} {xs : List V} {ss : List α} (h : AllAt R xs ss) {i : Nat} (hi : i < ss.length) : ∃ x, xs[i]? = some x ∧ R x ss[i] := by
  obtain ⟨x, e, r⟩ := h.at (List.getElem?_eq_getElem hi)
  exact ⟨x, e, r⟩
theorem AllAt.set {α : Type} {R : V → α → Prop} {xs : List V} {ss : List α} {x : V} {s : α} (h : AllAt R xs ss) (i : Nat) (r : R x s) : AllAt R (xs.set i x) (ss.set i s) := by
  refine ⟨by rw [List.length_set, List.length_set, h.1], fun j y e => ?_⟩
  have hj := (List.getElem?_eq_some_iff.mp e).1
  rw [List.length_set] at hj
  by_cases c : i = j
  · subst c
    rw [List.getElem?_set_self hj] at e
    cases e
    exact ⟨s, by rw [List.getElem?_set_self (by rw [← h.1]; exact hj)], r⟩
  · rw [List.getElem?_set_ne c] at e
    obtain ⟨t, h1, h2⟩ := h.2 j y e
    exact ⟨t, by rw [List.getElem?_set_ne c]; exact h1, h2⟩
theorem AllAt.take {α : Type} {R : V → α → Prop} {xs : List V} {ss : List α} (h : AllAt R xs ss) (n : Nat) : AllAt R (xs.take n) (ss.take n) := by
  refine ⟨by rw [List.length_take, List.length_take, h.1], fun j y e => ?_⟩
  have hj := (List.getElem?_eq_some_iff.mp e).1
  rw [List.length_take] at hj
  rw [List.getElem?_take_of_lt (by omega)] at e
  obtain ⟨t, h1, h2⟩ := h.2 j y e
  exact ⟨t, by rw [List.getElem?_take_of_lt (by omega)]; exact h1, h2⟩
theorem AllAt.app {α : Type} {R : V → α → Prop} {xs ys : List V} {ss ts : List α} (h : AllAt R xs ss) (k : AllAt R ys ts) : AllAt R (xs ++ ys) (ss ++ ts) := by
  refine ⟨by rw [List.length_append, List.length_append, h.1, k.1], fun j y e => ?_⟩
  by_cases c : j < xs.length
  · rw [List.getElem?_append_left c] at e
    rw [List.getElem?_append_left (by rw [← h.1]; exact c)]
    exact h.2 j y e
  · rw [List.getElem?_append_right (by omega)] at e
    rw [List.getElem?_append_right (by rw [← h.1]; omega), ← h.1]
    exact k.2 _ y e
theorem cutV_butlast {xs : List V} : cutV xs none (some (-1)) = xs.dropLast := by
  unfold cutV
  rw [List.dropLast_eq_take]
  show (xs.drop (HT.sIx xs.length 0 none)).take (HT.sIx xs.length xs.length (some (-1)) - HT.sIx xs.length 0 none) = _
  have h0 : HT.sIx xs.length 0 none = 0 := rfl
  have h1 : HT.sIx xs.length xs.length (some (-1)) = xs.length - 1 := by
    unfold HT.sIx
    simp
    omega
  rw [h0, h1]
  rfl
theorem atI_last {xs : List V} {v : V} (h : xs.getLast? = some v) : atI xs (-1) = some v := by
  have hz : xs ≠ [] := fun e => by rw [e] at h; cases h
  have hk : 0 < xs.length := List.length_pos_iff.mpr hz
  unfold atI ixN
  rw [if_neg (by decide), if_pos (by omega)]
  show xs[(-1 + (xs.length : Int)).toNat]? = _
  rw [show (-1 + (xs.length : Int)).toNat = xs.length - 1 by omega, ← h, List.getLast?_eq_getElem?]
/-! ### blocks that are lists -/
def LkAt (H : Hp) (x : V) (b : Bk) : Prop := (x = .non ∧ b = none) ∨ ∃ p ns, x = .ref p ∧ b = some ns ∧ H p = some (IL ns)
theorem LkAt.same {H H' : Hp} {x : V} {b : Bk} (s : Same H H') (h : LkAt H x b) : LkAt H' x b := by
  rcases h with h | ⟨p, ns, e1, e2, h⟩
  · exact .inl h
  · exact .inr ⟨p, ns, e1, e2, s _ _ h⟩
theorem LkAt.bk {H : Hp} {x : V} {b : Bk} (h : LkAt H x b) : BkAt H x b := by
  rcases h with h | ⟨p, ns, e1, e2, h⟩
  · exact .inl h
  · exact .inr ⟨p, ns, e1, e2, .inl h⟩
theorem LkAt.upn {H : Hp} {D : Addr} {o : HO} {v : V} {b : Bk} (n : v ≠ .ref D) (h : LkAt H v b) : LkAt (L2.upd H D o) v b := by
  rcases h with h | ⟨p, ns, e1, e2, h⟩
  · exact .inl h
  · have n2 : p ≠ D := fun q => n (by rw [e1, q])
    exact .inr ⟨p, ns, e1, e2, by rw [upd_ne n2]; exact h⟩
theorem LkAt.pool {H H' : Hp} {p q : Addr} {v : V} {b : Bk} (hP : Pool H p q) (s : SameB p H H') (h : LkAt H v b) : LkAt H' v b := by
  rcases h with h | ⟨t, ns, e1, e2, h⟩
  · exact .inl h
  · have n2 : t ≠ p := fun q => hP.nIL ns (by rw [← q]; exact h)
    exact .inr ⟨t, ns, e1, e2, s _ _ n2 h⟩
/-- no inner list is the outer one -/
theorem LkAt.out {H : Hp} {D : Addr} {xs : List V} {bs : List Bk} {v : V} {b : Bk} (hD : H D = some (.lst xs)) (hx : AllAt (LkAt H) xs bs) (h0 : 0 < bs.length) (h : LkAt H v b) : v ≠ .ref D := by
  intro e
  subst e
  rcases h with ⟨h, _⟩ | ⟨t, ns, e1, e2, h⟩
  · cases h
  · cases e1
    rw [h] at hD
    unfold IL at hD
    injection hD with hD
    injection hD with hD
    obtain ⟨x0, f0, r0⟩ := hx.get h0
    rw [← hD, List.getElem?_map] at f0
    cases hn : ns[0]? with
    | none => rw [hn] at f0; cases f0
    | some z =>
      rw [hn] at f0
      cases f0
      rcases r0 with ⟨c, _⟩ | ⟨_, _, c, _⟩ <;> cases c
def bkD (b : Bk) : PyData := match b with | none => .none | some ns => .list (ns.map PyData.int)
theorem LkAt.dt {H : Hp} {v : V} {b : Bk} (h : LkAt H v b) : Dt H v (bkD b) := by
  rcases h with ⟨rfl, rfl⟩ | ⟨t, ns, rfl, rfl, h⟩
  · exact .non
  · exact dt_IL h
theorem AllAt.dt {α : Type} {H : Hp} {R : V → α → Prop} {f : α → PyData} (hf : ∀ v s, R v s → Dt H v (f s)) : ∀ {xs : List V} {ss : List α}, AllAt R xs ss → DtAll H xs (ss.map f)
  | [], [], _ => .nil
  | x :: xs, s :: ss, h => by
    obtain ⟨t, ht, hr⟩ := h.2 0 x rfl
    cases ht
    exact .cons (hf _ _ hr) (AllAt.dt hf ⟨by have := h.1; simpa using this, fun j y e => h.2 (j + 1) y e⟩)
  | [], _ :: _, h => by have := h.1; simp at this
  | _ :: _, [], h => by have := h.1; simp at this
theorem shal_bk {b : Bk} {k : Nat} : Shal (bkD b) (k + 2) := by
  cases b with
  | none => exact .non
  | some ns => exact .list .ints
theorem shal_map {α : Type} {f : α → PyData} {k : Nat} (hf : ∀ a, Shal (f a) (k + 1)) : ∀ ss : List α, ShalAll (ss.map f) (k + 1)
  | [] => .nil
  | a :: r => .cons (hf a) (shal_map hf r)
theorem shaped_sh {d : PyData} (hs : Shal d 7) : SeqAt.shaped d = true := by
  unfold SeqAt.shaped
  rw [Bool.and_eq_true]
  exact ⟨hs.1, decide_eq_true (by have := hs.2; omega)⟩
theorem any_none (bs : List Bk) : ((bs.map bkD).any fun z => PyData.eqv z .none) = decide (none ∈ bs) := by
  rw [Bool.eq_iff_iff, List.any_map, List.any_eq_true, decide_eq_true_eq]
  constructor
  · rintro ⟨b, hb, e⟩
    cases b with
    | none => exact hb
    | some ns =>
      simp only [Function.comp, bkD] at e
      rw [PyData.eqv] at e <;> first | cases e | (intros; nofun)
  · intro h
    refine ⟨none, h, ?_⟩
    simp only [Function.comp, bkD]
    rw [PyData.eqv]
/-- None (not) in a list of blocks -/
theorem notIn_blocks {K : PySem.W.Frag} {H : Hp} {D : Addr} {xs : List V} {bs : List Bk} {Q : VK} (hD : H D = some (.lst xs)) (hx : AllAt (LkAt H) xs bs) (q : Q (.bl (!decide (none ∈ bs))) H) : rNotInD K .non (.ref D) H Q := by
  have hd : Dt H (.ref D) (.list (bs.map bkD)) := .lst hD (AllAt.dt (fun _ _ h => h.dt) hx)
  exact ⟨.none, bs.map bkD, .non, hd.dp, shaped_sh .non, shaped_sh (.list (shal_map (fun a => shal_bk (k := 4)) bs)), by rw [any_none]; exact q⟩
theorem in_blocks {K : PySem.W.Frag} {H : Hp} {D : Addr} {xs : List V} {bs : List Bk} {Q : VK} (hD : H D = some (.lst xs)) (hx : AllAt (LkAt H) xs bs) (q : Q (.bl (decide (none ∈ bs))) H) : rInD K .non (.ref D) H Q := by
  have hd : Dt H (.ref D) (.list (bs.map bkD)) := .lst hD (AllAt.dt (fun _ _ h => h.dt) hx)
  exact ⟨.none, bs.map bkD, .non, hd.dp, shaped_sh .non, shaped_sh (.list (shal_map (fun a => shal_bk (k := 4)) bs)), by rw [any_none]; exact q⟩
/-- blocks at places -/
def gets (bs : List Bk) (ns : List Int) : List Bk := ns.map fun i => bs.getD i.toNat none
def raw (bs : List Bk) : List (List Int) := bs.map fun b => b.getD []
theorem rows_of {H : Hp} {D : Addr} {xs : List V} {bs : List Bk} (hD : H D = some (.lst xs)) (hx : AllAt (LkAt H) xs bs) (hn : none ∉ bs) : RowsAt H D (raw bs) := by
  have h : ∀ (xs : List V) (bs : List Bk), AllAt (LkAt H) xs bs → none ∉ bs → ∃ as : List Addr, xs = as.map V.ref ∧ as.length = (raw bs).length ∧ ∀ i a, as[i]? = some a → H a = some (IL ((raw bs).getD i [])) := by
    intro xs
    induction xs with
    | nil =>
      intro bs h _
      have : bs = [] := List.eq_nil_of_length_eq_zero h.1.symm
      subst this
      exact ⟨[], rfl, rfl, fun i a e => by simp at e⟩
    | cons x xs ih =>
      intro bs h hn
      rcases bs with _ | ⟨b, bs⟩
      · have := h.1; simp at this
      obtain ⟨t, ht, hr⟩ := h.2 0 x rfl
      cases ht
      obtain ⟨as, e1, e2, e3⟩ := ih bs ⟨by have := h.1; simpa using this, fun j y e => h.2 (j + 1) y e⟩ (fun m => hn (List.mem_cons_of_mem _ m))
      rcases hr with ⟨_, rfl⟩ | ⟨p, ns, rfl, rfl, hp⟩
      · exact absurd List.mem_cons_self hn
      · refine ⟨p :: as, by rw [e1]; rfl, by simp [raw] at e2 ⊢; exact e2, fun i a e => ?_⟩
        cases i with
        | zero => cases e; exact hp
        | succ i => exact e3 i a e
  obtain ⟨as, rfl, e2, e3⟩ := h xs bs hx hn
  exact ⟨as, hD, e2, e3⟩
theorem memDL {α : Type} {l : List α} {x : α} (h : x ∈ l.dropLast) : x ∈ l := (List.dropLast_sublist l).subset h
/-- the indexes below n that k picks -/
def pickZ (k : Nat → Bool) (n : Nat) : List Int := ((List.range n).filter k).map fun i : Nat => (i : Int)
theorem pickZ_more (k : Nat → Bool) (n : Nat) : pickZ k (n + 1) = if k n = true then pickZ k n ++ [(n : Int)] else pickZ k n := by
  unfold pickZ
  rw [List.range_succ, List.filter_append, List.map_append]
  split
  · rename_i e
    rw [List.filter_cons_of_pos e]
    rfl
  · rename_i e
    rw [List.filter_cons_of_neg e]
    simp
theorem pickZ_len (k : Nat → Bool) (n : Nat) : (pickZ k n).length ≤ n := by
  unfold pickZ
  rw [List.length_map]
  have := List.length_filter_le k (List.range n)
  rw [List.length_range] at this
  exact this
theorem room70 {k : Nat} {A : Around} (hr : Room k A) : A.units + 70 < cLine := by
  have := hr.un
  omega
theorem pe_fldK {X : Cx} {K : PySem.W.Frag} {e : Expr} {ta : TE} {f : Str} {pos : Pos} (he : PE X e ta) (hb : attributeBase e f X.env (eval e X.env) = eval e X.env) (hK : X.K = K) : PE X (.Attribute e f pos) (tFld K ta f) := by
  subst hK
  exact pe_fld he hb
end Dw

/-! sectors found on a track -/
namespace Dw
open PySem PySem.Spec PyProof.Rows L2
def cutA (cs : List Int) (a n : Nat) : List Int := (cs.drop a).take n
theorem sIx_nat (n d m : Nat) : HT.sIx n d (some ((m : Nat) : Int)) = min m n := HT.sIx_nat ..
theorem cutI_any (ns : List Int) (a b : Nat) (h : a ≤ b) : cutI ns (some (a : Int)) (some (b : Int)) = cutA ns a (b - a) := by
  unfold cutI cutA
  rw [sIx_nat, sIx_nat]
  by_cases c : a ≤ ns.length
  · rw [Nat.min_eq_left c]
    by_cases d : b ≤ ns.length
    · rw [Nat.min_eq_left d]
    · rw [Nat.min_eq_right (by omega), List.take_of_length_le (by rw [List.length_drop]; omega), List.take_of_length_le (by rw [List.length_drop]; omega)]
  · rw [Nat.min_eq_right (by omega : ns.length ≤ a), List.drop_of_length_le (Nat.le_refl _), List.drop_of_length_le (by omega), List.take_nil, List.take_nil]
theorem cutI_to2 (ns : List Int) : cutI ns none (some (-2)) = ns.take (ns.length - 2) := by
  unfold cutI
  have h1 : HT.sIx ns.length ns.length (some (-2)) = ns.length - 2 := by
    unfold HT.sIx
    simp
    omega
  rw [h1]
  show (ns.drop 0).take (ns.length - 2 - 0) = _
  rw [List.drop_zero, Nat.sub_zero]
theorem cutI_last2 (ns : List Int) : cutI ns (some (-2)) none = ns.drop (ns.length - 2) := by
  unfold cutI
  have h1 : HT.sIx ns.length 0 (some (-2)) = ns.length - 2 := by
    unfold HT.sIx
    simp
    omega
  rw [h1]
  show (ns.drop (ns.length - 2)).take (ns.length - (ns.length - 2)) = _
  rw [List.take_of_length_le (by rw [List.length_drop]; omega)]
theorem cutI_from1 (ns : List Int) (b : Nat) (h : 1 ≤ b) : cutI ns (some 1) (some (b : Int)) = (ns.drop 1).take (b - 1) := cutI_any ns 1 b h
/-- the places of marks, from a place on -/
def mkFrom (cs : List Int) (a : Nat) : List Nat := if h : a + 48 ≤ cs.length then (if cutA cs a 48 = marksZ then a :: mkFrom cs (a + 48) else mkFrom cs (a + 1)) else []
termination_by cs.length + 1 - a
theorem mkFrom_yes {cs : List Int} {a : Nat} (h : a + 48 ≤ cs.length) (m : cutA cs a 48 = marksZ) : mkFrom cs a = a :: mkFrom cs (a + 48) := by
  rw [mkFrom, dif_pos h, if_pos m]
theorem mkFrom_no {cs : List Int} {a : Nat} (h : a + 48 ≤ cs.length) (m : ¬ cutA cs a 48 = marksZ) : mkFrom cs a = mkFrom cs (a + 1) := by
  rw [mkFrom, dif_pos h, if_neg m]
theorem mkFrom_end {cs : List Int} {a : Nat} (h : ¬ a + 48 ≤ cs.length) : mkFrom cs a = [] := by
  rw [mkFrom, dif_neg h]
def NL (ns : List Nat) : List Int := ns.map fun n : Nat => (n : Int)
def mkZ (cs : List Int) : List Nat := mkFrom cs 0
theorem mkFrom_len (cs : List Int) : ∀ (k a : Nat), cs.length + 1 - a ≤ k → (mkFrom cs a).length ≤ cs.length + 1 - a
  | 0, a, h => by rw [mkFrom_end (by omega)]; exact Nat.zero_le _
  | k + 1, a, h => by
    by_cases c : a + 48 ≤ cs.length
    · by_cases m : cutA cs a 48 = marksZ
      · rw [mkFrom_yes c m]
        have := mkFrom_len cs k (a + 48) (by omega)
        rw [List.length_cons]
        omega
      · rw [mkFrom_no c m]
        have := mkFrom_len cs k (a + 1) (by omega)
        omega
    · rw [mkFrom_end c]; exact Nat.zero_le _
theorem mkZ_len (cs : List Int) : (mkZ cs).length ≤ cs.length + 1 := mkFrom_len cs _ 0 (Nat.le_refl _)
theorem mkFrom_in (cs : List Int) : ∀ (k a : Nat), cs.length + 1 - a ≤ k → ∀ p ∈ mkFrom cs a, a ≤ p ∧ p + 48 ≤ cs.length
  | 0, a, h, p, hp => by rw [mkFrom_end (by omega)] at hp; cases hp
  | k + 1, a, h, p, hp => by
    by_cases c : a + 48 ≤ cs.length
    · by_cases m : cutA cs a 48 = marksZ
      · rw [mkFrom_yes c m] at hp
        rcases List.mem_cons.mp hp with e | e
        · subst e; exact ⟨Nat.le_refl _, c⟩
        · have := mkFrom_in cs k (a + 48) (by omega) p e
          omega
      · rw [mkFrom_no c m] at hp
        have := mkFrom_in cs k (a + 1) (by omega) p hp
        omega
    · rw [mkFrom_end c] at hp; cases hp
theorem mkZ_in {cs : List Int} {p : Nat} (h : p ∈ mkZ cs) : p + 48 ≤ cs.length := (mkFrom_in cs _ 0 (Nat.le_refl _) p h).2
/-- what is read behind a mark -/
def behC (cs : List Int) (p n : Nat) : List Int := cutA cs (p + 48) (16 * n)
def valsB (cs : List Int) : List Int := bytesZ (odds cs (8 * (cs.length / 16)))
def faultB (cs : List Int) : List Int := mfmFa 1 (evens cs (8 * (cs.length / 16))) (odds cs (8 * (cs.length / 16)))
theorem bytesZ_len (ns : List Int) : (bytesZ ns).length = ns.length / 8 := by
  unfold bytesZ
  rw [List.length_map, List.length_range]
theorem valsB_len (cs : List Int) : (valsB cs).length = cs.length / 16 := by
  unfold valsB
  rw [bytesZ_len, odds_len]
  omega
theorem behC_len (cs : List Int) (p n : Nat) : (behC cs p n).length ≤ 16 * n := List.length_take_le _ _
theorem byteZ_bound : ∀ ns : List Int, Bits ns → 0 ≤ byteZ ns ∧ byteZ ns < 2 ^ ns.length := by
  have : ∀ (ns : List Int) (acc : Int) (k : Nat), Bits ns → 0 ≤ acc → acc < 2 ^ k → 0 ≤ ns.foldl (fun v b => 2 * v + b) acc ∧ ns.foldl (fun v b => 2 * v + b) acc < 2 ^ (k + ns.length) := by
    intro ns
    induction ns with
    | nil => intro acc k _ h0 h1; exact ⟨h0, h1⟩
    | cons b r ih =>
      intro acc k hb h0 h1
      have hb0 := hb b List.mem_cons_self
      have h2 : (2 : Int) ^ (k + 1) = 2 * 2 ^ k := by rw [Int.pow_succ, Int.mul_comm]
      have := ih (2 * acc + b) (k + 1) (fun x hx => hb x (List.mem_cons_of_mem _ hx)) (by omega) (by rw [h2]; omega)
      rw [show k + (b :: r).length = k + 1 + r.length by rw [List.length_cons]; omega]
      exact this
  intro ns h
  have := this ns 0 0 h (by omega) (by decide)
  rw [Nat.zero_add] at this
  exact this
theorem bytesZ_bytes {ns : List Int} (h : Bits ns) : Bytes (bytesZ ns) := by
  intro x hx
  unfold bytesZ at hx
  obtain ⟨k, hk, rfl⟩ := List.mem_map.mp hx
  have hl : ((ns.drop (8 * k)).take 8).length ≤ 8 := List.length_take_le _ _
  have hb : Bits ((ns.drop (8 * k)).take 8) := fun b hb => h b (List.mem_of_mem_drop (List.mem_of_mem_take hb))
  have := byteZ_bound _ hb
  have h8 : (2 : Int) ^ ((ns.drop (8 * k)).take 8).length ≤ 2 ^ 8 := by
    have := Nat.pow_le_pow_right (n := 2) (by decide) hl
    exact_mod_cast this
  omega
theorem odds_bits {cs : List Int} {n : Nat} (h : Bits cs) (hn : 2 * n ≤ cs.length) : Bits (odds cs n) := by
  intro x hx
  unfold odds at hx
  obtain ⟨k, hk, rfl⟩ := List.mem_map.mp hx
  have := List.mem_range.mp hk
  rw [List.getD_eq_getElem?_getD, List.getElem?_eq_getElem (by omega)]
  exact h _ (List.getElem_mem _)
theorem cutA_bits {cs : List Int} {a n : Nat} (h : Bits cs) : Bits (cutA cs a n) := fun b hb => h b (List.mem_of_mem_drop (List.mem_of_mem_take hb))
theorem valsB_bytes {cs : List Int} (h : Bits cs) : Bytes (valsB cs) := bytesZ_bytes (odds_bits h (by omega))
def fitsZ (vs : List Int) : Bool := decide (pairZ (crcZ ([161, 161, 161] ++ vs.take (vs.length - 2))) = vs.drop (vs.length - 2))
abbrev Dta := Option (List Int) × Bool
def dtaOf (sz : Nat) (part : List Int) : Dta :=
  if (valsB part).length < 16 * 2 ^ sz + 3 ∨ (valsB part).getD 0 0 ≠ 251 then (none, false) else (some (((valsB part).drop 1).take (16 * 2 ^ sz)), (faultB part).isEmpty && fitsZ (valsB part))
def behZ (cs : List Int) (sz : Int) (e p : Nat) : Dta :=
  if 5 < sz ∨ p < e ∨ e + 960 < p then (none, false) else dtaOf sz.toNat (behC cs p (16 * 2 ^ sz.toNat + 3))
abbrev Fnd := Nat × List Int × Bool × Option (List Int) × Bool
def FndAt (H : Hp) (x : V) (f : Fnd) : Prop := ∃ t ta v, x = .ref t ∧ H t = some (.tup [.int f.1, .ref ta, .bl f.2.2.1, v, .bl f.2.2.2.2]) ∧ H ta = some (.tup (f.2.1.map V.int)) ∧ DatT H v f.2.2.2.1
theorem FndAt.same {H H' : Hp} {x : V} {f : Fnd} (s : Same H H') (h : FndAt H x f) : FndAt H' x f := by
  obtain ⟨t, ta, v, e, h1, h2, h3⟩ := h
  exact ⟨t, ta, v, e, s _ _ h1, s _ _ h2, h3.same s⟩
theorem DatT.ups {H : Hp} {D : Addr} {xs : List V} {o : HO} {v : V} {da : Option (List Int)} (hD : H D = some (.lst xs)) (h : DatT H v da) : DatT (L2.upd H D o) v da := by
  rcases h with h | ⟨a, ns, e1, e2, h⟩
  · exact .inl h
  · exact .inr ⟨a, ns, e1, e2, by rw [upd_ne (fun q => by subst q; rw [h] at hD; cases hD)]; exact h⟩
theorem FndAt.ups {H : Hp} {D : Addr} {xs : List V} {o : HO} {x : V} {f : Fnd} (hD : H D = some (.lst xs)) (h : FndAt H x f) : FndAt (L2.upd H D o) x f := by
  obtain ⟨t, ta, v, e, h1, h2, h3⟩ := h
  have n1 : t ≠ D := fun q => by subst q; rw [h1] at hD; cases hD
  have n2 : ta ≠ D := fun q => by subst q; rw [h2] at hD; cases hD
  exact ⟨t, ta, v, e, by rw [upd_ne n1]; exact h1, by rw [upd_ne n2]; exact h2, h3.ups hD⟩
def dataBeh (cs : List Int) (ps : List Nat) (i : Nat) (sz : Int) : Dta := if i + 1 < ps.length then behZ cs sz (ps.getD i 0 + 160) (ps.getD (i + 1) 0) else (none, false)
def fndAt (cs : List Int) (ps : List Nat) (i : Nat) : Option Fnd :=
  let vs := valsB (behC cs (ps.getD i 0) 7)
  if vs.length < 7 ∨ vs.getD 0 0 ≠ 254 then none else
    some (ps.getD i 0, (vs.drop 1).take 4, fitsZ vs, dataBeh cs ps i (vs.getD 4 0))
def fndTo (cs : List Int) (ps : List Nat) (n : Nat) : List Fnd := (List.range n).filterMap (fndAt cs ps)
theorem fndTo_more (cs : List Int) (ps : List Nat) (n : Nat) : fndTo cs ps (n + 1) = match fndAt cs ps n with | none => fndTo cs ps n | some f => fndTo cs ps n ++ [f] := by
  unfold fndTo
  rw [List.range_succ, List.filterMap_append]
  cases h : fndAt cs ps n with
  | none => simp [h]
  | some f => simp [h]
theorem fndTo_len (cs : List Int) (ps : List Nat) (n : Nat) : (fndTo cs ps n).length ≤ n := by
  unfold fndTo
  have := List.length_filterMap_le (fndAt cs ps) (List.range n)
  rw [List.length_range] at this
  exact this
def foundZ (cs : List Int) : List Fnd := fndTo cs (mkZ cs) (mkZ cs).length
end Dw

/-! text.find over texts of bits -/
namespace Dw
open PySem PySem.Spec PyProof.Rows L2
theorem occ_from (s sub : Str) (lo : Nat) (hh : Nat) : (Builtin.Str.occurrences s sub lo hh 1 = [] ∧ ∀ i, lo ≤ i → ¬ StrLaws.At s sub hh i) ∨ ∃ a, Builtin.Str.occurrences s sub lo hh 1 = [a] ∧ lo ≤ a ∧ StrLaws.At s sub hh a ∧ ∀ i, lo ≤ i → i < a → ¬ StrLaws.At s sub hh i := by
  have hle := StrLaws.occ_length_le s sub lo hh 1
  rw [StrLaws.occ_eq] at hle ⊢
  rcases StrLaws.occ_first s sub hh 1 (Nat.le_refl _) (List.range' lo (hh + 1 - lo)) lo (fun i hi => (List.mem_range'_1.mp hi).1) with ⟨h0, hn⟩ | ⟨pre, a, post, e, h0, ha, hn⟩
  · refine .inl ⟨by rw [h0], fun i hi hA => ?_⟩
    exact hn i (List.mem_range'_1.mpr ⟨hi, by have := hA.1; omega⟩) hA
  · have hmem : a ∈ List.range' lo (hh + 1 - lo) := by rw [e]; simp
    have hlo := (List.mem_range'_1.mp hmem).1
    refine .inr ⟨a, ?_, hlo, ha, fun i hi hia hA => ?_⟩
    · generalize (forIn (List.range' lo (hh + 1 - lo)) ((#[] : Array Nat), lo) (StrLaws.occBody s sub hh 1)).run.fst = arr at h0 hle
      have h1 : arr.toList[0]? = some a := by
        rw [Array.getElem?_toList]
        exact h0
      cases hl : arr.toList with
      | nil => rw [hl] at h1; cases h1
      | cons b r =>
        rw [hl] at h1 hle
        cases r with
        | nil =>
          cases h1
          rfl
        | cons c t => simp at hle
    · have hi2 : i ∈ List.range' lo (hh + 1 - lo) := List.mem_range'_1.mpr ⟨hi, by have := hA.1; omega⟩
      rw [e] at hi2
      have hs := List.pairwise_lt_range' (s := lo) (n := hh + 1 - lo) (step := 1)
      rw [e] at hs
      have hp := List.pairwise_append.mp hs
      rcases List.mem_append.mp hi2 with h | h
      · exact hn i h hA
      · rcases List.mem_cons.mp h with h | h
        · omega
        · have := (List.pairwise_cons.mp hp.2.1).1 i h
          omega
theorem code_inj : ∀ {xs ys : List Int}, Bits xs → Bits ys → xs.map (fun b => (48 + b).toNat) = ys.map (fun b => (48 + b).toNat) → xs = ys
  | [], [], _, _, _ => rfl
  | [], _ :: _, _, _, h => by cases h
  | _ :: _, [], _, _, h => by cases h
  | x :: xs, y :: ys, hx, hy, h => by
    rw [List.map_cons, List.map_cons] at h
    have h1 := (List.cons.inj h).1
    have h2 := code_inj (fun b hb => hx b (List.mem_cons_of_mem _ hb)) (fun b hb => hy b (List.mem_cons_of_mem _ hb)) (List.cons.inj h).2
    have a := hx x List.mem_cons_self
    have b := hy y List.mem_cons_self
    have : x = y := by omega
    rw [this, h2]
theorem marks_bits0 : Bits marksZ := by
  intro x hx
  have : marksZ.all (fun x => x == 0 || x == 1) = true := by decide
  have := List.all_eq_true.mp this x hx
  simpa using this
theorem at_mark {cs : List Int} (hb : Bits cs) (i : Nat) : StrLaws.At (txtB cs) (txtB marksZ) (txtB cs).length i ↔ i + 48 ≤ cs.length ∧ cutA cs i 48 = marksZ := by
  have e1 : (txtB cs).cps.toList = cs.map fun b => (48 + b).toNat := tl_txtB hb
  have e2 : (txtB marksZ).cps.toList = marksZ.map fun b => (48 + b).toNat := tl_txtB marks_bits0
  have l1 : (txtB cs).length = cs.length := txtB_len hb
  have l2 : (txtB marksZ).length = 48 := txtB_len marks_bits0
  unfold StrLaws.At
  rw [StrLaws.subAt_eq, e1, e2, l1, l2, ← List.map_drop, ← List.map_take, beq_iff_eq]
  constructor
  · rintro ⟨h1, h2⟩
    exact ⟨h1, code_inj (cutA_bits hb) marks_bits0 h2⟩
  · rintro ⟨h1, h2⟩
    refine ⟨h1, ?_⟩
    have h2 : (cs.drop i).take 48 = marksZ := h2
    rw [h2]
theorem mkFrom_skip {cs : List Int} : ∀ (k a p : Nat), p = a + k → (∀ i, a ≤ i → i < p → ¬ (i + 48 ≤ cs.length ∧ cutA cs i 48 = marksZ)) → p + 48 ≤ cs.length → cutA cs p 48 = marksZ → mkFrom cs a = p :: mkFrom cs (p + 48)
  | 0, a, p, e, _, h1, h2 => by
    rw [Nat.add_zero] at e
    subst e
    exact mkFrom_yes h1 h2
  | k + 1, a, p, e, hn, h1, h2 => by
    rw [mkFrom_no (by omega) (fun h => hn a (Nat.le_refl _) (by omega) ⟨by omega, h⟩)]
    exact mkFrom_skip k (a + 1) p (by omega) (fun i hi hp => hn i (by omega) hp) h1 h2
theorem mkFrom_nil {cs : List Int} : ∀ (k a : Nat), cs.length + 1 - a ≤ k → (∀ i, a ≤ i → ¬ (i + 48 ≤ cs.length ∧ cutA cs i 48 = marksZ)) → mkFrom cs a = []
  | 0, a, h, _ => mkFrom_end (by omega)
  | k + 1, a, h, hn => by
    by_cases c : a + 48 ≤ cs.length
    · rw [mkFrom_no c (fun e => hn a (Nat.le_refl _) ⟨c, e⟩)]
      exact mkFrom_nil k (a + 1) (by omega) fun i hi => hn i (by omega)
    · exact mkFrom_end c
def headZ (ps : List Nat) : Int := match ps with | p :: _ => (p : Int) | [] => -1
theorem occ_mark {cs : List Int} (hb : Bits cs) (a : Nat) : (match Builtin.Str.occurrences (txtB cs) (txtB marksZ) a (txtB cs).length 1 with | k :: _ => (k : Int) | [] => -1) = headZ (mkFrom cs a) := by
  rcases occ_from (txtB cs) (txtB marksZ) a (txtB cs).length with ⟨e, hn⟩ | ⟨p, e, hp, hA, hn⟩
  · rw [e, mkFrom_nil _ a (Nat.le_refl _) (fun i hi h => hn i hi ((at_mark hb i).mpr h))]
    rfl
  · have h := (at_mark hb p).mp hA
    rw [e, mkFrom_skip (p - a) a p (by omega) (fun i hi hip h => hn i hi hip ((at_mark hb i).mpr h)) h.1 h.2]
    rfl
end Dw

/-! marks of written tracks -/
namespace Dw
open PySem PySem.Spec PyProof.Rows L2
/-- the pairs where a clock is missing -/
def vio (l : Int) : List Int → Nat → List Nat
  | c :: d :: r, k => (if l = 0 ∧ c = 0 ∧ d = 0 then [k] else []) ++ vio d r (k + 1)
  | [_], _ => []
  | [], _ => []
theorem vio_append : ∀ (xs : List Int) (l : Int) (ys : List Int) (k : Nat), xs.length % 2 = 0 → vio l (xs ++ ys) k = vio l xs k ++ vio (xs.getLastD l) ys (k + xs.length / 2)
  | [], l, ys, k, _ => rfl
  | [x], l, ys, k, h => by simp at h
  | c :: d :: r, l, ys, k, h => by
    have h2 : r.length % 2 = 0 := by
      rw [List.length_cons, List.length_cons] at h
      omega
    show _ ++ vio d (r ++ ys) (k + 1) = (_ ++ vio d r (k + 1)) ++ _
    rw [vio_append r d ys (k + 1) h2, List.append_assoc]
    have e1 : (c :: d :: r).getLastD l = r.getLastD d := by rw [List.getLastD_cons, List.getLastD_cons]
    have e2 : k + (c :: d :: r).length / 2 = k + 1 + r.length / 2 := by
      rw [List.length_cons, List.length_cons]
      omega
    rw [e1, e2]
theorem vio_mfm : ∀ (bs : List Int) (l : Int) (k : Nat), vio l (mfmF l bs) k = []
  | [], _, _ => rfl
  | b :: r, l, k => by
    show (if l = 0 ∧ clk l b = 0 ∧ b = 0 then [k] else []) ++ vio b (mfmF b r) (k + 1) = []
    rw [vio_mfm r b (k + 1), if_neg]
    · rfl
    · rintro ⟨h1, h2, h3⟩
      unfold clk at h2
      rw [if_pos ⟨h1, h3⟩] at h2
      cases h2
theorem vio_marks (l : Int) (k : Nat) : vio l marksZ k = [k + 5, k + 13, k + 21] := by
  simp [marksZ, markZ, vio]
theorem vio_mem : ∀ (i : Nat) (cs : List Int) (l : Int) (k : Nat), (i = 0 → l = 0) → (0 < i → cs[2 * i - 1]? = some 0) → cs[2 * i]? = some 0 → cs[2 * i + 1]? = some 0 → k + i ∈ vio l cs k
  | 0, cs, l, k, h0, _, h2, h3 => by
    match cs, h2, h3 with
    | c :: d :: r, h2, h3 =>
      cases h2
      cases h3
      show k ∈ (if l = 0 ∧ (0 : Int) = 0 ∧ (0 : Int) = 0 then [k] else []) ++ _
      rw [if_pos ⟨h0 rfl, rfl, rfl⟩]
      exact List.mem_append_left _ List.mem_cons_self
    | [c], h2, h3 => cases h3
  | i + 1, cs, l, k, _, h1, h2, h3 => by
    match cs, h1, h2, h3 with
    | c :: d :: r, h1, h2, h3 =>
      have h1 := h1 (Nat.succ_pos i)
      refine List.mem_append_right _ ?_
      rw [show k + (i + 1) = k + 1 + i by omega]
      refine vio_mem i r d (k + 1) (fun e => ?_) (fun e => ?_) ?_ ?_
      · subst e
        exact Option.some.inj h1
      · rw [show 2 * (i + 1) - 1 = (2 * i - 1) + 1 + 1 by omega] at h1
        exact h1
      · rw [show 2 * (i + 1) = 2 * i + 1 + 1 by omega] at h2
        exact h2
      · rw [show 2 * (i + 1) + 1 = 2 * i + 1 + 1 + 1 by omega] at h3
        exact h3
    | [c], h1, h2, h3 => cases h3
    | [], h1, h2, h3 => cases h3
/-- marks with the bytes behind each -/
def partZ (P : List Int) : List Int := marksZ ++ mfmF 1 (bitsOf P)
def partsZ (Ps : List (List Int)) : List Int := Ps.flatMap partZ
def plc (n : Nat) : List (List Int) → List Nat
  | [] => []
  | P :: r => n :: plc (n + 48 + 16 * P.length) r
theorem partZ_len (P : List Int) : (partZ P).length = 48 + 16 * P.length := by
  unfold partZ
  rw [List.length_append, mfmF_len, bitsOf_len]
  show 48 + _ = _
  omega
theorem marksZ_last (l : Int) : marksZ.getLastD l = 1 := rfl
theorem marksZ_len : marksZ.length = 48 := rfl
theorem vio_parts : ∀ (Ps : List (List Int)) (l : Int) (k : Nat), vio l (partsZ Ps) k = (plc (2 * k) Ps).flatMap fun p => [p / 2 + 5, p / 2 + 13, p / 2 + 21]
  | [], _, _ => rfl
  | P :: r, l, k => by
    have e : partsZ (P :: r) = marksZ ++ (mfmF 1 (bitsOf P) ++ partsZ r) := by
      unfold partsZ
      rw [List.flatMap_cons]
      unfold partZ
      rw [List.append_assoc]
    rw [e, vio_append _ _ _ _ (by decide), vio_marks, marksZ_last, vio_append _ _ _ _ (by rw [mfmF_len]; omega), vio_mfm, List.nil_append, vio_parts r, marksZ_len, mfmF_len, bitsOf_len]
    rw [show 2 * (k + 48 / 2 + 2 * (8 * P.length) / 2) = 2 * k + 48 + 16 * P.length by omega]
    show _ = (2 * k :: plc (2 * k + 48 + 16 * P.length) r).flatMap _
    rw [List.flatMap_cons, show 2 * k / 2 = k by omega]
theorem plc_in : ∀ (Ps : List (List Int)) (n : Nat), (∀ P ∈ Ps, 0 < P.length) → ∀ p ∈ plc n Ps, n ≤ p ∧ p + 48 ≤ n + (partsZ Ps).length
  | [], n, _, p, hp => by cases hp
  | P :: r, n, hP, p, hp => by
    have hl : (partsZ (P :: r)).length = 48 + 16 * P.length + (partsZ r).length := by
      unfold partsZ
      rw [List.flatMap_cons, List.length_append, partZ_len]
    rcases List.mem_cons.mp hp with h | h
    · subst h
      omega
    · have := plc_in r _ (fun Q hQ => hP Q (List.mem_cons_of_mem _ hQ)) p h
      omega
theorem plc_gap : ∀ (Ps : List (List Int)) (n : Nat), (∀ P ∈ Ps, 0 < P.length) → (plc n Ps).Pairwise fun a b => a + 64 ≤ b
  | [], _, _ => .nil
  | P :: r, n, hP => by
    refine List.pairwise_cons.mpr ⟨fun p hp => ?_, plc_gap r _ fun Q hQ => hP Q (List.mem_cons_of_mem _ hQ)⟩
    have := plc_in r _ (fun Q hQ => hP Q (List.mem_cons_of_mem _ hQ)) p hp
    have := hP P List.mem_cons_self
    omega
theorem plc_mod : ∀ (Ps : List (List Int)) (n : Nat), n % 16 = 0 → ∀ p ∈ plc n Ps, p % 16 = 0
  | [], _, _, p, hp => by cases hp
  | P :: r, n, hn, p, hp => by
    rcases List.mem_cons.mp hp with h | h
    · subst h; exact hn
    · exact plc_mod r _ (by omega) p h
theorem plc_mark : ∀ (Ps : List (List Int)) (pre : List Int), ∀ p ∈ plc pre.length Ps, cutA (pre ++ partsZ Ps) p 48 = marksZ
  | [], _, p, hp => by cases hp
  | P :: r, pre, p, hp => by
    have e : pre ++ partsZ (P :: r) = pre ++ partZ P ++ partsZ r := by
      unfold partsZ
      rw [List.flatMap_cons, List.append_assoc]
    rcases List.mem_cons.mp hp with h | h
    · subst h
      rw [e]
      unfold cutA
      rw [List.append_assoc, List.drop_left]
      unfold partZ
      rw [List.append_assoc, show (48 : Nat) = marksZ.length from rfl, List.take_left]
    · rw [e]
      have hl : pre.length + 48 + 16 * P.length = (pre ++ partZ P).length := by
        rw [List.length_append, partZ_len]
        omega
      rw [hl] at h
      exact plc_mark r (pre ++ partZ P) p h
theorem cut_cell {cs : List Int} {a i : Nat} (h : cutA cs a 48 = marksZ) (hi : i < 48) : cs[a + i]? = marksZ[i]? := by
  rw [← h]
  unfold cutA
  rw [List.getElem?_take_of_lt hi, List.getElem?_drop]
theorem gap_two {ps : List Nat} (h : ps.Pairwise fun a b => a + 64 ≤ b) {a b : Nat} (ha : a ∈ ps) (hb : b ∈ ps) : a = b ∨ a + 64 ≤ b ∨ b + 64 ≤ a := by
  obtain ⟨i, hi, rfl⟩ := List.mem_iff_getElem.mp ha
  obtain ⟨j, hj, rfl⟩ := List.mem_iff_getElem.mp hb
  rcases Nat.lt_trichotomy i j with c | c | c
  · exact .inr (.inl (List.pairwise_iff_getElem.mp h i j hi hj c))
  · subst c; exact .inl rfl
  · exact .inr (.inr (List.pairwise_iff_getElem.mp h j i hj hi c))
/-- a mark stands nowhere else -/
theorem mark_at {P0 : List Int} {Ps : List (List Int)} (hP : ∀ P ∈ Ps, 0 < P.length) {a : Nat} (h : cutA (mfmF 0 (bitsOf P0) ++ partsZ Ps) a 48 = marksZ) : a ∈ plc (16 * P0.length) Ps := by
  have hv : vio 0 (mfmF 0 (bitsOf P0) ++ partsZ Ps) 0 = (plc (16 * P0.length) Ps).flatMap fun p => [p / 2 + 5, p / 2 + 13, p / 2 + 21] := by
    rw [vio_append _ _ _ _ (by rw [mfmF_len]; omega), vio_mfm, List.nil_append, vio_parts, mfmF_len, bitsOf_len]
    rw [show 2 * (0 + 2 * (8 * P0.length) / 2) = 16 * P0.length by omega]
  have hg := plc_gap Ps (16 * P0.length) hP
  have hm := plc_mod Ps (16 * P0.length) (by omega)
  have hk : ∀ p ∈ plc (16 * P0.length) Ps, cutA (mfmF 0 (bitsOf P0) ++ partsZ Ps) p 48 = marksZ := fun p hp => by
    refine plc_mark Ps (mfmF 0 (bitsOf P0)) p ?_
    rw [mfmF_len, bitsOf_len, show 2 * (8 * P0.length) = 16 * P0.length by omega]
    exact hp
  generalize mfmF 0 (bitsOf P0) ++ partsZ Ps = cs at *
  generalize plc (16 * P0.length) Ps = ps at *
  have hc : ∀ i z, i < 48 → marksZ[i]? = some z → cs[a + i]? = some z := fun i z hi hz => by rw [cut_cell h hi, hz]
  have inV : ∀ i, 0 < i → cs[2 * i - 1]? = some 0 → cs[2 * i]? = some 0 → cs[2 * i + 1]? = some 0 → ∃ p ∈ ps, i = p / 2 + 5 ∨ i = p / 2 + 13 ∨ i = p / 2 + 21 := by
    intro i h0 h1 h2 h3
    have := vio_mem i cs 0 0 (fun e => by omega) (fun _ => h1) h2 h3
    rw [hv, Nat.zero_add] at this
    obtain ⟨p, hp, hq⟩ := List.mem_flatMap.mp this
    refine ⟨p, hp, ?_⟩
    simpa using hq
  by_cases ev : a % 2 = 0
  · obtain ⟨b, rfl⟩ : ∃ b, a = 2 * b := ⟨a / 2, by omega⟩
    have v1 := inV (b + 5) (by omega) (by rw [show 2 * (b + 5) - 1 = 2 * b + 9 by omega]; exact hc 9 0 (by decide) rfl) (by rw [show 2 * (b + 5) = 2 * b + 10 by omega]; exact hc 10 0 (by decide) rfl) (by rw [show 2 * (b + 5) + 1 = 2 * b + 11 by omega]; exact hc 11 0 (by decide) rfl)
    have v2 := inV (b + 13) (by omega) (by rw [show 2 * (b + 13) - 1 = 2 * b + 25 by omega]; exact hc 25 0 (by decide) rfl) (by rw [show 2 * (b + 13) = 2 * b + 26 by omega]; exact hc 26 0 (by decide) rfl) (by rw [show 2 * (b + 13) + 1 = 2 * b + 27 by omega]; exact hc 27 0 (by decide) rfl)
    have v3 := inV (b + 21) (by omega) (by rw [show 2 * (b + 21) - 1 = 2 * b + 41 by omega]; exact hc 41 0 (by decide) rfl) (by rw [show 2 * (b + 21) = 2 * b + 42 by omega]; exact hc 42 0 (by decide) rfl) (by rw [show 2 * (b + 21) + 1 = 2 * b + 43 by omega]; exact hc 43 0 (by decide) rfl)
    obtain ⟨p1, hp1, e1⟩ := v1
    obtain ⟨p2, hp2, e2⟩ := v2
    obtain ⟨p3, hp3, e3⟩ := v3
    have m1 := hm p1 hp1
    have m2 := hm p2 hp2
    have m3 := hm p3 hp3
    have g12 := gap_two hg hp1 hp2
    have g13 := gap_two hg hp1 hp3
    have : 2 * b = p1 := by omega
    rw [this]
    exact hp1
  · exfalso
    obtain ⟨b, rfl⟩ : ∃ b, a = 2 * b + 1 := ⟨a / 2, by omega⟩
    have v1 := inV (b + 2) (by omega) (by rw [show 2 * (b + 2) - 1 = 2 * b + 1 + 2 by omega]; exact hc 2 0 (by decide) rfl) (by rw [show 2 * (b + 2) = 2 * b + 1 + 3 by omega]; exact hc 3 0 (by decide) rfl) (by rw [show 2 * (b + 2) + 1 = 2 * b + 1 + 4 by omega]; exact hc 4 0 (by decide) rfl)
    have v2 := inV (b + 10) (by omega) (by rw [show 2 * (b + 10) - 1 = 2 * b + 1 + 18 by omega]; exact hc 18 0 (by decide) rfl) (by rw [show 2 * (b + 10) = 2 * b + 1 + 19 by omega]; exact hc 19 0 (by decide) rfl) (by rw [show 2 * (b + 10) + 1 = 2 * b + 1 + 20 by omega]; exact hc 20 0 (by decide) rfl)
    have v3 := inV (b + 18) (by omega) (by rw [show 2 * (b + 18) - 1 = 2 * b + 1 + 34 by omega]; exact hc 34 0 (by decide) rfl) (by rw [show 2 * (b + 18) = 2 * b + 1 + 35 by omega]; exact hc 35 0 (by decide) rfl) (by rw [show 2 * (b + 18) + 1 = 2 * b + 1 + 36 by omega]; exact hc 36 0 (by decide) rfl)
    obtain ⟨p1, hp1, e1⟩ := v1
    obtain ⟨p2, hp2, e2⟩ := v2
    obtain ⟨p3, hp3, e3⟩ := v3
    have m1 := hm p1 hp1
    have m2 := hm p2 hp2
    have m3 := hm p3 hp3
    have g12 := gap_two hg hp1 hp2
    have g13 := gap_two hg hp1 hp3
    have e : p1 = 2 * b - 6 ∧ 3 ≤ b := by omega
    have c1 : cs[p1 + 17]? = some 1 := by rw [cut_cell (hk p1 hp1) (by decide)]; rfl
    have c2 : cs[2 * b + 1 + 10]? = some 0 := hc 10 0 (by decide) rfl
    rw [show p1 + 17 = 2 * b + 1 + 10 by omega, c2] at c1
    cases c1
/-- where marks stand at known places only -/
theorem mkFrom_eq {cs : List Int} {ps : List Nat} (hg : ps.Pairwise fun a b => a + 64 ≤ b) (hin : ∀ p ∈ ps, p + 48 ≤ cs.length ∧ cutA cs p 48 = marksZ) (hon : ∀ a, cutA cs a 48 = marksZ → a ∈ ps) :
    ∀ (k a : Nat) (qs rs : List Nat), cs.length + 1 - a ≤ k → ps = qs ++ rs → (∀ q ∈ qs, q + 48 ≤ a) → (∀ r ∈ rs, a ≤ r) → mkFrom cs a = rs
  | 0, a, qs, rs, hk, he, _, hr => by
    rw [mkFrom_end (by omega)]
    cases rs with
    | nil => rfl
    | cons r rs =>
      have h1 := hr r List.mem_cons_self
      have h2 := (hin r (by rw [he]; simp)).1
      omega
  | k + 1, a, qs, rs, hk, he, hq, hr => by
    by_cases c : a + 48 ≤ cs.length
    · by_cases m : cutA cs a 48 = marksZ
      · rw [mkFrom_yes c m]
        have ha := hon a m
        rw [he] at ha
        rcases List.mem_append.mp ha with h | h
        · have := hq a h
          omega
        · cases rs with
          | nil => cases h
          | cons r rs =>
            rw [he] at hg
            have hgr := (List.pairwise_append.mp hg).2.1
            have hr1 := List.pairwise_cons.mp hgr
            have e : r = a := by
              rcases List.mem_cons.mp h with h | h
              · exact h.symm
              · have h1 := hr1.1 a h
                have h2 := hr r List.mem_cons_self
                omega
            subst e
            rw [mkFrom_eq (by rw [he]; exact hg) hin hon k (r + 48) (qs ++ [r]) rs (by omega) (by rw [he]; simp) (fun q h => ?_) (fun s h => ?_)]
            · rcases List.mem_append.mp h with h | h
              · have := hq q h
                omega
              · rw [List.mem_singleton.mp h]
                exact Nat.le_refl _
            · have := hr1.1 s h
              omega
      · rw [mkFrom_no c m]
        refine mkFrom_eq hg hin hon k (a + 1) qs rs (by omega) he (fun q h => by have := hq q h; omega) fun r h => ?_
        have h1 := hr r h
        have h2 : r ≠ a := fun e => m (e ▸ (hin r (by rw [he]; exact List.mem_append_right _ h)).2)
        omega
    · rw [mkFrom_end c]
      cases rs with
      | nil => rfl
      | cons r rs =>
        have h1 := hr r List.mem_cons_self
        have h2 := (hin r (by rw [he]; simp)).1
        omega
theorem mk_stream {P0 : List Int} {Ps : List (List Int)} (hP : ∀ P ∈ Ps, 0 < P.length) : mkZ (mfmF 0 (bitsOf P0) ++ partsZ Ps) = plc (16 * P0.length) Ps := by
  have hl : (mfmF 0 (bitsOf P0)).length = 16 * P0.length := by rw [mfmF_len, bitsOf_len]; omega
  refine mkFrom_eq (plc_gap Ps _ hP) (fun p hp => ⟨?_, ?_⟩) (fun a h => mark_at hP h) _ 0 [] _ (Nat.le_refl _) rfl (fun q h => by cases h) (fun r _ => Nat.zero_le _)
  · have := (plc_in Ps _ hP p hp).2
    rw [List.length_append, hl]
    exact this
  · rw [← hl] at hp
    exact plc_mark Ps _ p hp
end Dw

/-! what is found on written tracks -/
namespace Dw
open PySem PySem.Spec PyProof.Rows L2
theorem mfmB_len (b : Int) (Q : List Int) : (mfmF b (bitsOf Q)).length = 16 * Q.length := by rw [mfmF_len, bitsOf_len]; omega
theorem vals_mfm {Q : List Int} (hb : Bytes Q) : valsB (mfmF 1 (bitsOf Q)) = Q ∧ faultB (mfmF 1 (bitsOf Q)) = [] := by
  have hl : 8 * ((mfmF 1 (bitsOf Q)).length / 16) = (bitsOf Q).length := by rw [mfmB_len, bitsOf_len]; omega
  have h1 := mfm_odds 1 (bitsOf Q) []
  have h2 := mfm_faults 1 (bitsOf Q) []
  rw [List.append_nil] at h1 h2
  unfold valsB faultB
  rw [hl, h1, h2]
  exact ⟨bytes_bits Q hb, rfl⟩
theorem mfm_split (b : Int) (X Y : List Int) : mfmF b (bitsOf (X ++ Y)) = mfmF b (bitsOf X) ++ mfmF (lastOf b (bitsOf X)) (bitsOf Y) := by
  rw [bitsOf_append, mfmF_append]
theorem beh_part {pre P rest : List Int} {n : Nat} (hn : n ≤ P.length) : behC (pre ++ (partZ P ++ rest)) pre.length n = mfmF 1 (bitsOf (P.take n)) := by
  unfold behC cutA
  rw [← List.drop_drop, List.drop_left]
  unfold partZ
  rw [List.append_assoc, show (48 : Nat) = marksZ.length from rfl, List.drop_left]
  have e : mfmF 1 (bitsOf P) = mfmF 1 (bitsOf (P.take n)) ++ mfmF (lastOf 1 (bitsOf (P.take n))) (bitsOf (P.drop n)) := by rw [← mfm_split, List.take_append_drop]
  have hl : 16 * n = (mfmF 1 (bitsOf (P.take n))).length := by rw [mfmB_len, List.length_take]; omega
  rw [e, List.append_assoc, hl, List.take_left]
theorem vals_first {b : Int} {R : List Int} (hb : 0 ≤ b ∧ b < 256) : (valsB (mfmF 1 (bitsOf [b]) ++ R)).getD 0 0 = b := by
  have hl : (mfmF 1 (bitsOf [b]) ++ R).length = 16 + R.length := by rw [List.length_append, mfmB_len]; rfl
  have h1 := mfm_odds 1 (bitsOf [b]) R
  have h8 : (bitsOf [b]).length = 8 := by rw [bitsOf_len]; rfl
  rw [h8] at h1
  obtain ⟨v, rfl⟩ := nat_of hb.1
  have hbits : bitsOf [(v : Int)] = bits8 v := by unfold bitsOf; simp
  unfold valsB bytesZ
  rw [odds_len, hl]
  have hm : 8 * ((16 + R.length) / 16) / 8 = (R.length / 16) + 1 := by omega
  rw [hm, List.range_succ_eq_map, List.map_cons]
  show byteZ (((odds (mfmF 1 (bitsOf [(v : Int)]) ++ R) (8 * ((16 + R.length) / 16))).drop (8 * 0)).take 8) = (v : Int)
  have ho : (odds (mfmF 1 (bitsOf [(v : Int)]) ++ R) (8 * ((16 + R.length) / 16))).take 8 = odds (mfmF 1 (bitsOf [(v : Int)]) ++ R) 8 := by
    unfold odds
    rw [← List.map_take, List.take_range]
    rw [Nat.min_eq_left (by omega)]
  show byteZ ((odds (mfmF 1 (bitsOf [(v : Int)]) ++ R) (8 * ((16 + R.length) / 16))).take 8) = (v : Int)
  rw [ho, h1, hbits]
  exact byteZ_bits8 (by omega)
theorem beh_first {pre P rest : List Int} {n : Nat} {b : Int} (h0 : P[0]? = some b) (hn : 0 < n) (hb : 0 ≤ b ∧ b < 256) : (valsB (behC (pre ++ (partZ P ++ rest)) pre.length n)).getD 0 0 = b := by
  have hP : 0 < P.length := (List.getElem?_eq_some_iff.mp h0).1
  obtain ⟨R, hR⟩ : ∃ R, behC (pre ++ (partZ P ++ rest)) pre.length n = mfmF 1 (bitsOf [b]) ++ R := by
    have h1 := beh_part (pre := pre) (rest := rest) (P := P) (n := 1) hP
    have e1 : P.take 1 = [b] := by
      cases P with
      | nil => cases h0
      | cons x r => cases h0; rfl
    rw [e1] at h1
    refine ⟨(behC (pre ++ (partZ P ++ rest)) pre.length n).drop 16, ?_⟩
    rw [← h1]
    have e2 : behC (pre ++ (partZ P ++ rest)) pre.length 1 = (behC (pre ++ (partZ P ++ rest)) pre.length n).take 16 := by
      unfold behC cutA
      rw [List.take_take, Nat.min_eq_left (by omega)]
    rw [e2, List.take_append_drop]
  rw [hR]
  exact vals_first hb
theorem pairZ_inj {a b : Int} (h : pairZ a = pairZ b) : a = b := by
  unfold pairZ at h
  injection h with h1 h2
  injection h2 with h2 _
  omega
theorem fits_eq (ns : List Int) (w : Bool) : fitsZ (ns ++ pairZ (chkZ ns w)) = !w := by
  unfold fitsZ
  have hl : (ns ++ pairZ (chkZ ns w)).length - 2 = ns.length := by rw [List.length_append]; show ns.length + 2 - 2 = _; omega
  rw [hl, List.take_left, List.drop_left]
  cases w with
  | false => exact decide_eq_true rfl
  | true =>
    refine decide_eq_false fun h => ?_
    have := pairZ_inj h
    unfold chkZ at this
    rw [if_pos rfl] at this
    omega
/-- list of marks, each with the next one -/
def fnd1 (cs : List Int) (p : Nat) (nx : Option Nat) : Option Fnd :=
  let vs := valsB (behC cs p 7)
  if vs.length < 7 ∨ vs.getD 0 0 ≠ 254 then none else
    some (p, (vs.drop 1).take 4, fitsZ vs, match nx with | some q => behZ cs (vs.getD 4 0) (p + 160) q | none => (none, false))
def fndL (cs : List Int) : List Nat → List Fnd
  | [] => []
  | p :: r => (match fnd1 cs p r.head? with | none => [] | some f => [f]) ++ fndL cs r
theorem fnd1_at (cs : List Int) (ps : List Nat) (i : Nat) (h : i < ps.length) : fndAt cs ps i = fnd1 cs (ps.getD i 0) (ps[i + 1]?) := by
  have hd : ∀ z, dataBeh cs ps i z = (match ps[i + 1]? with | some q => behZ cs z (ps.getD i 0 + 160) q | none => (none, false)) := fun z => by
    unfold dataBeh
    by_cases c : i + 1 < ps.length
    · rw [if_pos c, List.getElem?_eq_getElem c, List.getD_eq_getElem?_getD (i := i + 1), List.getElem?_eq_getElem c]
      rfl
    · rw [if_neg c, List.getElem?_eq_none (by omega)]
  unfold fndAt fnd1
  simp only [hd]
theorem fm_congr {β : Type} {f g : Nat → Option β} : ∀ l : List Nat, (∀ a ∈ l, f a = g a) → l.filterMap f = l.filterMap g
  | [], _ => rfl
  | a :: r, h => by rw [List.filterMap_cons, List.filterMap_cons, h a List.mem_cons_self, fm_congr r fun b hb => h b (List.mem_cons_of_mem _ hb)]
theorem fndL_eq (cs : List Int) : ∀ ps : List Nat, fndTo cs ps ps.length = fndL cs ps
  | [] => rfl
  | p :: r => by
    have ih := fndL_eq cs r
    unfold fndTo at ih ⊢
    rw [List.length_cons, List.range_succ_eq_map, List.filterMap_cons, List.filterMap_map]
    have e0 : fndAt cs (p :: r) 0 = fnd1 cs p r.head? := by
      rw [fnd1_at cs (p :: r) 0 (by simp)]
      cases r <;> rfl
    have es : (List.range r.length).filterMap (fndAt cs (p :: r) ∘ Nat.succ) = (List.range r.length).filterMap (fndAt cs r) := by
      refine fm_congr _ fun i hi => ?_
      have hi := List.mem_range.mp hi
      show fndAt cs (p :: r) (i + 1) = fndAt cs r i
      rw [fnd1_at cs (p :: r) (i + 1) (by rw [List.length_cons]; omega), fnd1_at cs r i hi]
      rfl
    rw [e0, es, ih]
    rw [fndL]
    cases fnd1 cs p r.head? <;> rfl
/-- bytes up to the next mark -/
def tb (r : List Sec) (g : Nat) : List Int := match r with | [] => List.replicate g 78 | _ :: _ => List.replicate 6 0
def adP (s : Sec) : List Int := 254 :: s.1 ++ pairZ (chkZ (254 :: s.1) s.2.2.1)
def daP (d : List Int) (w : Bool) : List Int := 251 :: d ++ pairZ (chkZ (251 :: d) w)
def pays : List Sec → Nat → List (List Int)
  | [], _ => []
  | s :: r, g => match s.2.1 with
    | none => (adP s ++ (List.replicate 8 78 ++ (List.replicate 8 78 ++ tb r g))) :: pays r g
    | some d => (adP s ++ (List.replicate 8 78 ++ List.replicate 6 0)) :: (daP d s.2.2.2 ++ (List.replicate 8 78 ++ tb r g)) :: pays r g
def dueM (n : Nat) : List Sec → List Fnd
  | [] => []
  | s :: r => (n, s.1, !s.2.2.1, s.2.1, s.2.1.isSome && !s.2.2.2) :: dueM (n + 160 + 128 + 128 + (match s.2.1 with | none => 0 | some d => 96 + 16 * (6 + d.length)) + 96) r
theorem pays_pos : ∀ (ss : List Sec) (g : Nat), ∀ P ∈ pays ss g, 0 < P.length
  | [], _, P, h => by cases h
  | (ad, da, aw, dw) :: r, g, P, h => by
    cases da with
    | none =>
      rcases List.mem_cons.mp h with h | h
      · subst h; simp [adP]
      · exact pays_pos r g P h
    | some d =>
      rcases List.mem_cons.mp h with h | h
      · subst h; simp [adP]
      · rcases List.mem_cons.mp h with h | h
        · subst h; simp [daP]
        · exact pays_pos r g P h
theorem lastOf_gap (b : Int) (X : List Int) : lastOf b (bitsOf (X ++ List.replicate 8 78)) = 0 := by
  rw [bitsOf_append]
  unfold lastOf
  rw [getLastD_append (by decide)]
  rfl
theorem mfmB_last (b x : Int) (Q : List Int) (h : Q ≠ []) : (mfmF b (bitsOf Q)).getLastD x = lastOf b (bitsOf Q) := by
  have hne : bitsOf Q ≠ [] := fun e => h (by have := congrArg List.length e; rw [bitsOf_len] at this; exact List.eq_nil_of_length_eq_zero (by have h0 : ([] : List Int).length = 0 := rfl; omega))
  rw [mfmF_last _ _ _ hne]
  unfold lastOf
  rw [List.getLastD_eq_getLast?, List.getLastD_eq_getLast?, List.getLast?_eq_some_getLast hne]
  rfl
theorem field_gap {Z ns : List Int} {w : Bool} (T : List Int) : fieldZ ns w ++ gapZ 8 ((Z ++ fieldZ ns w).getLastD 0) ++ mfmF 0 (bitsOf T) = mfmF 0 (bitsOf (List.replicate 6 0)) ++ partZ (ns ++ pairZ (chkZ ns w) ++ (List.replicate 8 78 ++ T)) := by
  have hne : ns ++ pairZ (chkZ ns w) ≠ [] := by unfold pairZ; simp
  have hl : (Z ++ fieldZ ns w).getLastD 0 = lastOf 1 (bitsOf (ns ++ pairZ (chkZ ns w))) := by
    rw [getLastD_append (by unfold fieldZ; simp [marksZ, markZ])]
    unfold fieldZ
    rw [getLastD_append (by
      intro e
      have := congrArg List.length e
      rw [mfmB_len, List.length_append] at this
      simp [pairZ] at this), mfmB_last _ _ _ hne]
  rw [hl]
  unfold partZ
  rw [mfm_split 1 (ns ++ pairZ (chkZ ns w)), mfm_split _ (List.replicate 8 78) T]
  have hz : lastOf (lastOf 1 (bitsOf (ns ++ pairZ (chkZ ns w)))) (bitsOf (List.replicate 8 78)) = 0 := lastOf_gap _ []
  rw [hz]
  unfold fieldZ gapZ
  simp only [List.append_assoc]
theorem stream_from (g : Nat) : ∀ (ss : List Sec) (Z : List Int), Z.getLastD 0 = 0 → ss.foldl secStep Z ++ gapZ g 0 = Z ++ (mfmF 0 (bitsOf (tb ss g)) ++ partsZ (pays ss g))
  | [], Z, _ => by
    show Z ++ gapZ g 0 = Z ++ (mfmF 0 (bitsOf (List.replicate g 78)) ++ [])
    rw [List.append_nil]
    rfl
  | (ad, da, aw, dw) :: r, Z, hZ => by
    have hs := secStep_last Z (ad, da, aw, dw) 0
    show r.foldl secStep (secStep Z (ad, da, aw, dw)) ++ gapZ g 0 = _
    rw [stream_from g r _ hs]
    show _ = Z ++ (mfmF 0 (bitsOf (List.replicate 6 0)) ++ partsZ (pays ((ad, da, aw, dw) :: r) g))
    cases da with
    | none =>
      have e1 : secStep Z (ad, none, aw, dw) = Z ++ (fieldZ (254 :: ad) aw ++ gapZ 8 ((Z ++ fieldZ (254 :: ad) aw).getLastD 0) ++ mfmF 0 (bitsOf (List.replicate 8 78))) := by
        have hlz : ∀ x, (Z ++ fieldZ (254 :: ad) aw ++ gapZ 8 x).getLastD 0 = 0 := fun x => by
          rw [getLastD_append (by intro e; have := congrArg List.length e; rw [gapZ_len] at this; cases this), gapZ_last (by decide)]
        rw [secStep_eq]
        simp only [show ∀ X, datC X none dw = X from fun _ => rfl, hlz]
        simp only [List.append_assoc]
        rfl
      rw [e1, field_gap]
      have e2 : partsZ (pays ((ad, none, aw, dw) :: r) g) = partZ (adP (ad, none, aw, dw) ++ (List.replicate 8 78 ++ (List.replicate 8 78 ++ tb r g))) ++ partsZ (pays r g) := rfl
      rw [e2]
      have e3 : partZ (254 :: ad ++ pairZ (chkZ (254 :: ad) aw) ++ (List.replicate 8 78 ++ List.replicate 8 78)) ++ mfmF 0 (bitsOf (tb r g)) = partZ (adP (ad, none, aw, dw) ++ (List.replicate 8 78 ++ (List.replicate 8 78 ++ tb r g))) := by
        unfold partZ
        have e4 : adP (ad, none, aw, dw) ++ (List.replicate 8 78 ++ (List.replicate 8 78 ++ tb r g)) = (254 :: ad ++ pairZ (chkZ (254 :: ad) aw) ++ (List.replicate 8 78 ++ List.replicate 8 78)) ++ tb r g := by
          unfold adP
          simp only [List.append_assoc]
        rw [e4, mfm_split 1 _ (tb r g), ← List.append_assoc (254 :: ad ++ pairZ (chkZ (254 :: ad) aw)), lastOf_gap, List.append_assoc]
      rw [← e3]
      simp only [List.append_assoc]
    | some d =>
      have e1 : secStep Z (ad, some d, aw, dw) = Z ++ (fieldZ (254 :: ad) aw ++ gapZ 8 ((Z ++ fieldZ (254 :: ad) aw).getLastD 0)) ++ (fieldZ (251 :: d) dw ++ gapZ 8 ((Z ++ (fieldZ (254 :: ad) aw ++ gapZ 8 ((Z ++ fieldZ (254 :: ad) aw).getLastD 0)) ++ fieldZ (251 :: d) dw).getLastD 0)) := by
        rw [secStep_eq]
        unfold datC
        simp only [List.append_assoc]
      rw [e1]
      have f2 := field_gap (Z := Z ++ (fieldZ (254 :: ad) aw ++ gapZ 8 ((Z ++ fieldZ (254 :: ad) aw).getLastD 0))) (ns := 251 :: d) (w := dw) (tb r g)
      have f1 := field_gap (Z := Z) (ns := 254 :: ad) (w := aw) (List.replicate 6 0)
      generalize gapZ 8 ((Z ++ (fieldZ (254 :: ad) aw ++ gapZ 8 ((Z ++ fieldZ (254 :: ad) aw).getLastD 0)) ++ fieldZ (251 :: d) dw).getLastD 0) = G2 at f2 ⊢
      generalize gapZ 8 ((Z ++ fieldZ (254 :: ad) aw).getLastD 0) = G1 at f1 ⊢
      have e2 : partsZ (pays ((ad, some d, aw, dw) :: r) g) = partZ (adP (ad, some d, aw, dw) ++ (List.replicate 8 78 ++ List.replicate 6 0)) ++ (partZ (daP d dw ++ (List.replicate 8 78 ++ tb r g)) ++ partsZ (pays r g)) := rfl
      have e3 : adP (ad, some d, aw, dw) = 254 :: ad ++ pairZ (chkZ (254 :: ad) aw) := rfl
      have e4 : daP d dw = 251 :: d ++ pairZ (chkZ (251 :: d) dw) := rfl
      rw [e2, e3, e4]
      calc Z ++ (fieldZ (254 :: ad) aw ++ G1) ++ (fieldZ (251 :: d) dw ++ G2) ++ (mfmF 0 (bitsOf (tb r g)) ++ partsZ (pays r g))
          = Z ++ (fieldZ (254 :: ad) aw ++ G1 ++ ((fieldZ (251 :: d) dw ++ G2 ++ mfmF 0 (bitsOf (tb r g))) ++ partsZ (pays r g))) := by simp only [List.append_assoc]
        _ = Z ++ ((fieldZ (254 :: ad) aw ++ G1 ++ mfmF 0 (bitsOf (List.replicate 6 0))) ++ (partZ (251 :: d ++ pairZ (chkZ (251 :: d) dw) ++ (List.replicate 8 78 ++ tb r g)) ++ partsZ (pays r g))) := by rw [f2]; simp only [List.append_assoc]
        _ = _ := by rw [f1]; simp only [List.append_assoc]
theorem stream_track (ss : List Sec) (g : Nat) : trackZ ss ++ gapZ g 0 = mfmF 0 (bitsOf (List.replicate 10 78 ++ tb ss g)) ++ partsZ (pays ss g) := by
  unfold trackZ
  rw [stream_from g ss (gapZ 10 0) (gapZ_last (by decide)), mfm_split]
  have : lastOf 0 (bitsOf (List.replicate 10 78)) = 0 := by decide
  rw [this, List.append_assoc]
  rfl
theorem adP_len {s : Sec} (h : s.1.length = 4) : (adP s).length = 7 := by
  unfold adP pairZ
  simp [h]
theorem pairZ_by (ns : List Int) (w : Bool) : Bytes (pairZ (chkZ ns w)) := pairZ_bytes (chkZ_nn ns w)
theorem bytes_cons {x : Int} {ns : List Int} (h : 0 ≤ x ∧ x < 256) (hn : Bytes ns) : Bytes (x :: ns) := fun y hy => by
  rcases List.mem_cons.mp hy with e | e
  · subst e; exact h
  · exact hn y e
theorem adP_bytes {s : Sec} (h : Bytes s.1) : Bytes (adP s) := Bytes.app (bytes_cons (by omega) h) (pairZ_by _ _)
theorem daP_bytes {d : List Int} {w : Bool} (h : Bytes d) : Bytes (daP d w) := Bytes.app (bytes_cons (by omega) h) (pairZ_by _ _)
theorem pays_head (s : Sec) (r : List Sec) (g : Nat) : ∃ P rest, pays (s :: r) g = P :: rest ∧ P[0]? = some 254 := by
  obtain ⟨ad, da, aw, dw⟩ := s
  cases da with
  | none => exact ⟨_, _, rfl, rfl⟩
  | some d => exact ⟨_, _, rfl, rfl⟩
theorem due_stream (g : Nat) : ∀ (ss : List Sec) (pre : List Int), (∀ s ∈ ss, OkSec s) → fndL (pre ++ partsZ (pays ss g)) (plc pre.length (pays ss g)) = dueM pre.length ss
  | [], pre, _ => rfl
  | (ad, da, aw, dw) :: r, pre, hok => by
    have hok0 := hok _ List.mem_cons_self
    have h4 := okSec_len hok0
    obtain ⟨a, b, c, z, had, hbad, hz5, hda⟩ := hok0
    have h4 : ad.length = 4 := h4
    have hbad : Bytes ad := hbad
    have hokr : ∀ s ∈ r, OkSec s := fun s hs => hok s (List.mem_cons_of_mem _ hs)
    have had : ad = [a, b, c, z] := had
    have hzb := hbad z (by rw [had]; simp)
    have hal : (adP (ad, da, aw, dw)).length = 7 := adP_len h4
    have hab : Bytes (adP (ad, da, aw, dw)) := adP_bytes hbad
    have hfit : fitsZ (adP (ad, da, aw, dw)) = !aw := fits_eq (254 :: ad) aw
    have h14 : ((adP (ad, da, aw, dw)).drop 1).take 4 = ad := by
      unfold adP
      show (ad ++ pairZ _).take 4 = ad
      rw [← h4, List.take_left]
    have hg4 : (adP (ad, da, aw, dw)).getD 4 0 = z := by
      unfold adP
      rw [had]
      rfl
    have hg0 : (adP (ad, da, aw, dw)).getD 0 0 = 254 := rfl
    have hread : ∀ (X rest : List Int), valsB (behC (pre ++ (partZ (adP (ad, da, aw, dw) ++ X) ++ rest)) pre.length 7) = adP (ad, da, aw, dw) := fun X rest => by
      rw [beh_part (by rw [List.length_append]; omega), ← hal, List.take_left]
      exact (vals_mfm hab).1
    cases da with
    | none =>
      have ep : pays ((ad, none, aw, dw) :: r) g = (adP (ad, none, aw, dw) ++ (List.replicate 8 78 ++ (List.replicate 8 78 ++ tb r g))) :: pays r g := rfl
      have es : partsZ (pays ((ad, none, aw, dw) :: r) g) = partZ (adP (ad, none, aw, dw) ++ (List.replicate 8 78 ++ (List.replicate 8 78 ++ tb r g))) ++ partsZ (pays r g) := rfl
      have hrd := hread (List.replicate 8 78 ++ (List.replicate 8 78 ++ tb r g)) (partsZ (pays r g))
      rw [es, ep]
      show (match fnd1 _ pre.length (plc (pre.length + 48 + 16 * _) (pays r g)).head? with | none => [] | some f => [f]) ++ fndL _ (plc (pre.length + 48 + 16 * _) (pays r g)) = _
      have hPl : (pre ++ partZ (adP (ad, none, aw, dw) ++ (List.replicate 8 78 ++ (List.replicate 8 78 ++ tb r g)))).length = pre.length + 48 + 16 * (adP (ad, none, aw, dw) ++ (List.replicate 8 78 ++ (List.replicate 8 78 ++ tb r g))).length := by
        rw [List.length_append, partZ_len]
        omega
      have ih := due_stream g r (pre ++ partZ (adP (ad, none, aw, dw) ++ (List.replicate 8 78 ++ (List.replicate 8 78 ++ tb r g)))) hokr
      rw [hPl, List.append_assoc] at ih
      rw [ih]
      have hnx : (match (plc (pre.length + 48 + 16 * (adP (ad, none, aw, dw) ++ (List.replicate 8 78 ++ (List.replicate 8 78 ++ tb r g))).length) (pays r g)).head? with | some q => behZ (pre ++ (partZ (adP (ad, none, aw, dw) ++ (List.replicate 8 78 ++ (List.replicate 8 78 ++ tb r g))) ++ partsZ (pays r g))) z (pre.length + 160) q | none => (none, false)) = ((none, false) : Dta) := by
        cases r with
        | nil => rfl
        | cons s2 r2 =>
          obtain ⟨P, rest, e1, e2⟩ := pays_head s2 r2 g
          rw [e1]
          show behZ _ z (pre.length + 160) (pre.length + 48 + 16 * _) = _
          unfold behZ
          split
          · rfl
          · unfold dtaOf
            have e3 : partsZ (P :: rest) = partZ P ++ partsZ rest := rfl
            have hf := beh_first (pre := pre ++ partZ (adP (ad, none, aw, dw) ++ (List.replicate 8 78 ++ (List.replicate 8 78 ++ tb (s2 :: r2) g)))) (P := P) (rest := partsZ rest) (n := 16 * 2 ^ z.toNat + 3) e2 (by omega) (by omega)
            rw [hPl, List.append_assoc, ← e3] at hf
            rw [if_pos (.inr (by rw [hf]; decide))]
      have e1 : fnd1 (pre ++ (partZ (adP (ad, none, aw, dw) ++ (List.replicate 8 78 ++ (List.replicate 8 78 ++ tb r g))) ++ partsZ (pays r g))) pre.length (plc (pre.length + 48 + 16 * (adP (ad, none, aw, dw) ++ (List.replicate 8 78 ++ (List.replicate 8 78 ++ tb r g))).length) (pays r g)).head? = some (pre.length, ad, !aw, none, false) := by
        unfold fnd1
        simp only [hrd]
        rw [if_neg (by rw [hal, hg0]; decide), h14, hfit, hg4, hnx]
      rw [e1]
      show (pre.length, ad, !aw, none, false) :: dueM _ r = (pre.length, ad, !aw, none, false) :: dueM (pre.length + 160 + 128 + 128 + 0 + 96) r
      cases r with
      | nil => rfl
      | cons s2 r2 =>
        have : pre.length + 48 + 16 * (adP (ad, none, aw, dw) ++ (List.replicate 8 78 ++ (List.replicate 8 78 ++ tb (s2 :: r2) g))).length = pre.length + 160 + 128 + 128 + 0 + 96 := by
          rw [List.length_append, hal]
          simp [tb] <;> omega
        rw [this]
    | some d =>
      obtain ⟨hdl, hdb⟩ := hda d rfl
      have hdl : d.length = 16 * 2 ^ z.toNat := hdl
      have ep : pays ((ad, some d, aw, dw) :: r) g = (adP (ad, some d, aw, dw) ++ (List.replicate 8 78 ++ List.replicate 6 0)) :: (daP d dw ++ (List.replicate 8 78 ++ tb r g)) :: pays r g := rfl
      have es : partsZ (pays ((ad, some d, aw, dw) :: r) g) = partZ (adP (ad, some d, aw, dw) ++ (List.replicate 8 78 ++ List.replicate 6 0)) ++ (partZ (daP d dw ++ (List.replicate 8 78 ++ tb r g)) ++ partsZ (pays r g)) := rfl
      have hrd := hread (List.replicate 8 78 ++ List.replicate 6 0) (partZ (daP d dw ++ (List.replicate 8 78 ++ tb r g)) ++ partsZ (pays r g))
      have hAl : (adP (ad, some d, aw, dw) ++ (List.replicate 8 78 ++ List.replicate 6 0)).length = 21 := by
        rw [List.length_append, hal]
        rfl
      have hq : (pre ++ partZ (adP (ad, some d, aw, dw) ++ (List.replicate 8 78 ++ List.replicate 6 0))).length = pre.length + 48 + 16 * 21 := by
        rw [List.length_append, partZ_len, hAl]
        try omega
      have hdl2 : (daP d dw).length = d.length + 3 := by unfold daP pairZ; simp
      have hdpb : Bytes (daP d dw) := daP_bytes hdb
      have hbd : ∀ n, n ≤ (daP d dw ++ (List.replicate 8 78 ++ tb r g)).length → behC (pre ++ (partZ (adP (ad, some d, aw, dw) ++ (List.replicate 8 78 ++ List.replicate 6 0)) ++ (partZ (daP d dw ++ (List.replicate 8 78 ++ tb r g)) ++ partsZ (pays r g)))) (pre.length + 48 + 16 * 21) n = mfmF 1 (bitsOf ((daP d dw ++ (List.replicate 8 78 ++ tb r g)).take n)) := fun n hn => by
        have := beh_part (pre := pre ++ partZ (adP (ad, some d, aw, dw) ++ (List.replicate 8 78 ++ List.replicate 6 0))) (P := daP d dw ++ (List.replicate 8 78 ++ tb r g)) (rest := partsZ (pays r g)) hn
        rw [hq, List.append_assoc] at this
        exact this
      rw [es, ep]
      show (match fnd1 _ pre.length (some (pre.length + 48 + 16 * (adP (ad, some d, aw, dw) ++ (List.replicate 8 78 ++ List.replicate 6 0)).length)) with | none => [] | some f => [f]) ++ ((match fnd1 _ (pre.length + 48 + 16 * (adP (ad, some d, aw, dw) ++ (List.replicate 8 78 ++ List.replicate 6 0)).length) (plc (pre.length + 48 + 16 * (adP (ad, some d, aw, dw) ++ (List.replicate 8 78 ++ List.replicate 6 0)).length + 48 + 16 * (daP d dw ++ (List.replicate 8 78 ++ tb r g)).length) (pays r g)).head? with | none => [] | some f => [f]) ++ fndL _ (plc (pre.length + 48 + 16 * (adP (ad, some d, aw, dw) ++ (List.replicate 8 78 ++ List.replicate 6 0)).length + 48 + 16 * (daP d dw ++ (List.replicate 8 78 ++ tb r g)).length) (pays r g))) = _
      rw [hAl]
      have hPl : (pre ++ (partZ (adP (ad, some d, aw, dw) ++ (List.replicate 8 78 ++ List.replicate 6 0)) ++ partZ (daP d dw ++ (List.replicate 8 78 ++ tb r g)))).length = pre.length + 48 + 16 * 21 + 48 + 16 * (daP d dw ++ (List.replicate 8 78 ++ tb r g)).length := by
        rw [List.length_append, List.length_append, partZ_len, partZ_len, hAl]
        omega
      have ih := due_stream g r (pre ++ (partZ (adP (ad, some d, aw, dw) ++ (List.replicate 8 78 ++ List.replicate 6 0)) ++ partZ (daP d dw ++ (List.replicate 8 78 ++ tb r g)))) hokr
      rw [hPl, List.append_assoc, List.append_assoc] at ih
      rw [ih]
      have h7 : 7 ≤ (daP d dw ++ (List.replicate 8 78 ++ tb r g)).length := by
        rw [List.length_append, List.length_append, List.length_replicate]
        omega
      have e2 : ∀ nx, fnd1 (pre ++ (partZ (adP (ad, some d, aw, dw) ++ (List.replicate 8 78 ++ List.replicate 6 0)) ++ (partZ (daP d dw ++ (List.replicate 8 78 ++ tb r g)) ++ partsZ (pays r g)))) (pre.length + 48 + 16 * 21) nx = none := fun nx => by
        unfold fnd1
        have hv : (valsB (behC (pre ++ (partZ (adP (ad, some d, aw, dw) ++ (List.replicate 8 78 ++ List.replicate 6 0)) ++ (partZ (daP d dw ++ (List.replicate 8 78 ++ tb r g)) ++ partsZ (pays r g)))) (pre.length + 48 + 16 * 21) 7)).getD 0 0 = 251 := by
          have := beh_first (pre := pre ++ partZ (adP (ad, some d, aw, dw) ++ (List.replicate 8 78 ++ List.replicate 6 0))) (P := daP d dw ++ (List.replicate 8 78 ++ tb r g)) (rest := partsZ (pays r g)) (n := 7) (b := 251) rfl (by decide) (by decide)
          rw [hq, List.append_assoc] at this
          exact this
        rw [if_pos (.inr (by rw [hv]; decide))]
      have hbz : behZ (pre ++ (partZ (adP (ad, some d, aw, dw) ++ (List.replicate 8 78 ++ List.replicate 6 0)) ++ (partZ (daP d dw ++ (List.replicate 8 78 ++ tb r g)) ++ partsZ (pays r g)))) z (pre.length + 160) (pre.length + 48 + 16 * 21) = (some d, !dw) := by
        unfold behZ
        rw [if_neg (by omega), ← hdl, hbd _ (by rw [List.length_append]; omega)]
        have ht : (daP d dw ++ (List.replicate 8 78 ++ tb r g)).take (d.length + 3) = daP d dw := by rw [← hdl2, List.take_left]
        have hv := vals_mfm hdpb
        unfold dtaOf
        rw [ht, hv.1, hv.2, ← hdl, if_neg (by rw [hdl2]; intro h; rcases h with h | h; · omega
                                              · exact h rfl)]
        have hd1 : ((daP d dw).drop 1).take d.length = d := by
          unfold daP
          show (d ++ pairZ _).take d.length = d
          rw [List.take_left]
        rw [hd1]
        have : fitsZ (daP d dw) = !dw := fits_eq (251 :: d) dw
        rw [this]
        rfl
      have e1 : fnd1 (pre ++ (partZ (adP (ad, some d, aw, dw) ++ (List.replicate 8 78 ++ List.replicate 6 0)) ++ (partZ (daP d dw ++ (List.replicate 8 78 ++ tb r g)) ++ partsZ (pays r g)))) pre.length (some (pre.length + 48 + 16 * 21)) = some (pre.length, ad, !aw, some d, !dw) := by
        unfold fnd1
        simp only [hrd]
        rw [if_neg (by rw [hal, hg0]; decide), h14, hfit, hg4, hbz]
      rw [e1, e2]
      show (pre.length, ad, !aw, some d, !dw) :: dueM _ r = (pre.length, ad, !aw, some d, true && !dw) :: dueM (pre.length + 160 + 128 + 128 + (96 + 16 * (6 + d.length)) + 96) r
      rw [Bool.true_and]
      cases r with
      | nil => rfl
      | cons s2 r2 =>
        have : pre.length + 48 + 16 * 21 + 48 + 16 * (daP d dw ++ (List.replicate 8 78 ++ tb (s2 :: r2) g)).length = pre.length + 160 + 128 + 128 + (96 + 16 * (6 + d.length)) + 96 := by
          rw [List.length_append, hdl2]
          simp [tb] <;> omega
        rw [this]
theorem found_track {ss : List Sec} (g : Nat) (hok : ∀ s ∈ ss, OkSec s) : foundZ (trackZ ss ++ gapZ g 0) = dueM 256 ss := by
  unfold foundZ
  rw [stream_track, mk_stream (pays_pos ss g), fndL_eq]
  cases ss with
  | nil => rfl
  | cons s r =>
    have h := due_stream g (s :: r) (mfmF 0 (bitsOf (List.replicate 10 78 ++ tb (s :: r) g))) hok
    have hl : (mfmF 0 (bitsOf (List.replicate 10 78 ++ tb (s :: r) g))).length = 256 := by rw [mfmB_len]; rfl
    have hl2 : 16 * (List.replicate 10 78 ++ tb (s :: r) g).length = 256 := rfl
    rw [hl] at h
    rw [hl2]
    exact h
def nx1 (n : Nat) (s : Sec) : Nat := n + 160 + 128 + 128 + (match s.2.1 with | none => 0 | some d => 96 + 16 * (6 + d.length)) + 96
def nxM (n : Nat) (ss : List Sec) : Nat := ss.foldl nx1 n
def due1 (n : Nat) (s : Sec) : Fnd := (n, s.1, !s.2.2.1, s.2.1, s.2.1.isSome && !s.2.2.2)
theorem dueM_app : ∀ (ss : List Sec) (n : Nat) (t : List Sec), dueM n (ss ++ t) = dueM n ss ++ dueM (nxM n ss) t
  | [], _, _ => rfl
  | s :: r, n, t => by
    have ih := dueM_app r (nx1 n s) t
    show due1 n s :: dueM (nx1 n s) (r ++ t) = due1 n s :: (dueM (nx1 n s) r ++ dueM (nxM (nx1 n s) r) t)
    rw [ih]
theorem dueM_more {ss : List Sec} {n i : Nat} {s : Sec} (h : ss[i]? = some s) : dueM n (ss.take (i + 1)) = dueM n (ss.take i) ++ [due1 (nxM n (ss.take i)) s] := by
  rw [take_more h, dueM_app]
  rfl
theorem nxM_more {ss : List Sec} {n i : Nat} {s : Sec} (h : ss[i]? = some s) : nxM n (ss.take (i + 1)) = nx1 (nxM n (ss.take i)) s := by
  unfold nxM
  rw [take_more h, List.foldl_append]
  rfl
theorem dueM_len : ∀ (ss : List Sec) (n : Nat), (dueM n ss).length = ss.length
  | [], _ => rfl
  | s :: r, n => by
    show (dueM _ r).length + 1 = _
    rw [dueM_len r, List.length_cons]
theorem mfmF_bits : ∀ (b : Int) (bs : List Int), (b = 0 ∨ b = 1) → Bits bs → Bits (mfmF b bs)
  | _, [], _, _ => fun x hx => by cases hx
  | b, c :: r, hb, hc => fun x hx => by
    have hc0 := hc c List.mem_cons_self
    rcases List.mem_cons.mp hx with e | e
    · subst e
      unfold clk
      split
      · exact .inr rfl
      · exact .inl rfl
    · rcases List.mem_cons.mp e with e | e
      · subst e; exact hc0
      · exact mfmF_bits c r hc0 (fun y hy => hc y (List.mem_cons_of_mem _ hy)) x e
theorem Bits.app {a b : List Int} (h1 : Bits a) (h2 : Bits b) : Bits (a ++ b) := fun x hx => (List.mem_append.mp hx).elim (h1 x) (h2 x)
theorem marks_bits : Bits marksZ := by
  intro x hx
  have : marksZ.all (fun x => x == 0 || x == 1) = true := by decide
  have := List.all_eq_true.mp this x hx
  simpa using this
theorem parts_bits : ∀ Ps : List (List Int), Bits (partsZ Ps)
  | [] => fun x hx => by cases hx
  | P :: r => by
    show Bits (partZ P ++ partsZ r)
    exact Bits.app (Bits.app marks_bits (mfmF_bits 1 _ (.inr rfl) (bitsOf_bits P))) (parts_bits r)
theorem track_bits (ss : List Sec) (g : Nat) : Bits (trackZ ss ++ gapZ g 0) := by
  rw [stream_track]
  exact Bits.app (mfmF_bits 0 _ (.inl rfl) (bitsOf_bits _)) (parts_bits _)
end Dw

/-! the law's own finder -/
namespace Dw
open PySem PySem.Spec PyProof.Rows L2
def rFind1 : V → List V → Hp → VK → Prop := fun x xs H Q => ∃ a b, x = .str a ∧ xs = [.str b] ∧ Q (.int (Txt.find a b)) H
theorem mt_find1 {X : Cx} : MtR X "str.find" rFind1 := mt_find
def rFind3 : V → List V → Hp → VK → Prop := fun x xs H Q => ∃ a b i, x = .str a ∧ xs = [.str b, .int i] ∧ Q (.int (Txt.find3 a b i)) H
theorem mt_findF {X : Cx} : MtR X "str.find" rFind3 := mt_find3
def tSMt (i : Nat) (r : V → List V → Hp → VK → Prop) (t : TA) : TE := fun σ H Q => ∃ z, σ[i]? = some (some (.str z)) ∧ t σ H fun xs H2 => r (.str z) xs H2 Q
theorem smt_imp {K : PySem.W.Frag} {i : Nat} {r : V → List V → Hp → VK → Prop} {t : TA} : ∀ σ H Q, tSMt i r t σ H Q → tBM K "str" r (tVar i) t σ H Q := by
  intro σ H Q ⟨z, e, q⟩
  exact ⟨_, e, rfl, q⟩
theorem find_mark {cs : List Int} (hb : Bits cs) : Txt.find (txtB cs) (txtB marksZ) = headZ (mkFrom cs 0) := occ_mark hb 0
theorem find3_mark {cs : List Int} (hb : Bits cs) (a : Nat) : Txt.find3 (txtB cs) (txtB marksZ) (a : Int) = headZ (mkFrom cs a) := by
  rw [← occ_mark hb a]
  have : fromIndex (txtB cs).length (a : Int) = a := by
    unfold fromIndex
    rw [if_neg (by omega)]
    omega
  unfold Txt.find3
  rw [this]
  cases Builtin.Str.occurrences (txtB cs) (txtB marksZ) a (txtB cs).length 1 <;> rfl
/-! ### found, mark by mark -/
def optL (o : Option Fnd) : List Fnd := match o with | none => [] | some f => [f]
def fndN (cs : List Int) : List Nat → Option Nat → List Fnd
  | [], _ => []
  | q :: r, nx => optL (fnd1 cs q (match r with | [] => nx | q2 :: _ => some q2)) ++ fndN cs r nx
theorem fndL_N (cs : List Int) : ∀ ps : List Nat, fndL cs ps = fndN cs ps none
  | [] => rfl
  | p :: r => by
    have ih := fndL_N cs r
    rw [fndL, ih]
    cases r <;> rfl
theorem fndN_snoc (cs : List Int) : ∀ (qs : List Nat) (p : Nat) (nx : Option Nat), fndN cs (qs ++ [p]) nx = fndN cs qs (some p) ++ optL (fnd1 cs p nx)
  | [], p, nx => by
    show optL (fnd1 cs p nx) ++ [] = [] ++ _
    rw [List.append_nil, List.nil_append]
  | [q], p, nx => by
    show optL (fnd1 cs q (some p)) ++ (optL (fnd1 cs p nx) ++ []) = (optL (fnd1 cs q (some p)) ++ []) ++ _
    rw [List.append_nil, List.append_nil]
  | q :: q2 :: r, p, nx => by
    have ih := fndN_snoc cs (q2 :: r) p nx
    show optL (fnd1 cs q (some q2)) ++ fndN cs ((q2 :: r) ++ [p]) nx = (optL (fnd1 cs q (some q2)) ++ fndN cs (q2 :: r) (some p)) ++ _
    rw [ih, List.append_assoc]
theorem fndN_len (cs : List Int) : ∀ (qs : List Nat) (nx : Option Nat), (fndN cs qs nx).length ≤ qs.length
  | [], _ => Nat.le_refl _
  | [q], nx => by
    have : ∀ o : Option Fnd, (optL o).length ≤ 1 := fun o => by cases o <;> simp [optL]
    have := this (fnd1 cs q nx)
    show (optL (fnd1 cs q nx) ++ []).length ≤ 1
    rw [List.append_nil]
    exact this
  | q :: q2 :: r, nx => by
    have ih := fndN_len cs (q2 :: r) nx
    have : ∀ o : Option Fnd, (optL o).length ≤ 1 := fun o => by cases o <;> simp [optL]
    have := this (fnd1 cs q (some q2))
    show (optL (fnd1 cs q (some q2)) ++ fndN cs (q2 :: r) nx).length ≤ _
    rw [List.length_append, List.length_cons]
    omega
/-- the address at a mark -/
def adr (cs : List Int) (p : Nat) : Option (List Int × Bool × Int) :=
  if (valsB (behC cs p 7)).length < 7 ∨ (valsB (behC cs p 7)).getD 0 0 ≠ 254 then none else some (((valsB (behC cs p 7)).drop 1).take 4, fitsZ (valsB (behC cs p 7)), (valsB (behC cs p 7)).getD 4 0)
def nxD (cs : List Int) (p : Nat) (sz : Int) (nx : Option Nat) : Dta := match nx with | some q => behZ cs sz (p + 160) q | none => (none, false)
theorem fnd1_adr (cs : List Int) (p : Nat) (nx : Option Nat) : fnd1 cs p nx = match adr cs p with | none => none | some (ad, gd, sz) => some (p, ad, gd, nxD cs p sz nx) := by
  unfold fnd1 adr
  by_cases c : (valsB (behC cs p 7)).length < 7 ∨ (valsB (behC cs p 7)).getD 0 0 ≠ 254
  · simp only [if_pos c]
  · simp only [if_neg c]
    cases nx <;> rfl
/-- the first byte behind a mark -/
theorem vals_take {X : List Int} (h : 16 ≤ X.length) : (valsB X).getD 0 0 = (valsB (X.take 16)).getD 0 0 := by
  have ho : ∀ n, 8 ≤ n → (odds X n).take 8 = odds X 8 := fun n hn => by
    unfold odds
    rw [← List.map_take, List.take_range, Nat.min_eq_left hn]
  have h8 : odds (X.take 16) 8 = odds X 8 := by
    unfold odds
    refine List.map_congr_left fun i hi => ?_
    have hi := List.mem_range.mp hi
    rw [List.getD_eq_getElem?_getD, List.getD_eq_getElem?_getD, List.getElem?_take_of_lt (by omega)]
  have hl : (X.take 16).length = 16 := by rw [List.length_take]; omega
  unfold valsB bytesZ
  rw [odds_len, odds_len, hl]
  have hm : 8 * (X.length / 16) / 8 = (X.length / 16 - 1) + 1 := by omega
  rw [hm, List.range_succ_eq_map, List.map_cons]
  show byteZ ((odds X (8 * (X.length / 16))).take 8) = byteZ ((odds (X.take 16) 8).take 8)
  rw [ho _ (by omega), h8, ho 8 (Nat.le_refl _)]
theorem behC_one {cs : List Int} {p n : Nat} (h : 1 ≤ n) : behC cs p 1 = (behC cs p n).take 16 := by
  unfold behC cutA
  rw [List.take_take, Nat.min_eq_left (by omega)]
theorem behC_len1 {cs : List Int} {p n : Nat} (h : 1 ≤ n) : (behC cs p 1).length = min 16 (behC cs p n).length := by
  rw [behC_one h, List.length_take]
/-- whole parts -/
theorem whole_iff {cs : List Int} {p n : Nat} : (valsB (behC cs p n)).length < n ↔ (behC cs p n).length < 16 * n := by
  rw [valsB_len]
  have := behC_len cs p n
  omega
/-- data behind an address, as the law tells it -/
theorem beh_law (cs : List Int) (sz : Int) (e p : Nat) (hz : 0 ≤ sz) : behZ cs sz e p =
    if ¬ (behC cs p 1).length < 16 ∧ (valsB (behC cs p 1)).getD 0 0 = 251 ∧ e ≤ p ∧ p ≤ e + 960 ∧ sz < 6 ∧ ¬ (behC cs p (16 * 2 ^ sz.toNat + 3)).length < 16 * (16 * 2 ^ sz.toNat + 3)
    then (some (((valsB (behC cs p (16 * 2 ^ sz.toNat + 3))).drop 1).take (16 * 2 ^ sz.toNat)), (faultB (behC cs p (16 * 2 ^ sz.toNat + 3))).isEmpty && fitsZ (valsB (behC cs p (16 * 2 ^ sz.toNat + 3)))) else (none, false) := by
  unfold behZ dtaOf
  have hl1 := behC_len1 (cs := cs) (p := p) (n := 16 * 2 ^ sz.toNat + 3) (by omega)
  have hw := whole_iff (cs := cs) (p := p) (n := 16 * 2 ^ sz.toNat + 3)
  by_cases c1 : 5 < sz ∨ p < e ∨ e + 960 < p
  · rw [if_pos c1, if_neg]
    rintro ⟨_, _, h3, h4, h5, _⟩
    omega
  · rw [if_neg c1]
    by_cases c2 : (behC cs p (16 * 2 ^ sz.toNat + 3)).length < 16 * (16 * 2 ^ sz.toNat + 3)
    · rw [if_pos (.inl (hw.mpr c2)), if_neg (fun h => h.2.2.2.2.2 c2)]
    · have hge : 16 ≤ (behC cs p (16 * 2 ^ sz.toNat + 3)).length := by omega
      have hv := vals_take hge
      rw [← behC_one (by omega)] at hv
      by_cases c3 : (valsB (behC cs p 1)).getD 0 0 = 251
      · rw [if_neg (fun h => h.elim (fun h => c2 (hw.mp h)) (fun h => h (hv.trans c3))), if_pos ⟨by omega, c3, by omega, by omega, by omega, c2⟩]
      · rw [if_pos (.inr (fun h => c3 (hv.symm.trans h))), if_neg (fun h => c3 h.2.1)]
theorem adr_law (cs : List Int) (p : Nat) : adr cs p = if ¬ (behC cs p 1).length < 16 ∧ (valsB (behC cs p 1)).getD 0 0 = 254 ∧ ¬ (behC cs p 7).length < 16 * 7 then some (((valsB (behC cs p 7)).drop 1).take 4, fitsZ (valsB (behC cs p 7)), (valsB (behC cs p 7)).getD 4 0) else none := by
  unfold adr
  have hl1 := behC_len1 (cs := cs) (p := p) (n := 7) (by omega)
  have hw := whole_iff (cs := cs) (p := p) (n := 7)
  by_cases c2 : (behC cs p 7).length < 16 * 7
  · rw [if_pos (.inl (hw.mpr c2)), if_neg (fun h => h.2.2 c2)]
  · have hv := vals_take (X := behC cs p 7) (by omega)
    rw [← behC_one (by omega)] at hv
    by_cases c3 : (valsB (behC cs p 1)).getD 0 0 = 254
    · rw [if_neg (fun h => h.elim (fun h => c2 (hw.mp h)) (fun h => h (hv.trans c3))), if_pos ⟨by omega, c3, c2⟩]
    · rw [if_pos (.inr (fun h => c3 (hv.symm.trans h))), if_neg (fun h => c3 h.2.1)]
/-! ### bytes, as the law reads them -/
def bitsK (X : List Int) (k : Nat) : List Int := (List.range 8).map fun i => X.getD (16 * k + 1 + 2 * i) 0
def clksK (X : List Int) (k : Nat) : List Int := (List.range 8).map fun i => X.getD (16 * k + 2 * i) 0
theorem bitsK_eq {X : List Int} {n k : Nat} (hk : k < n) : bitsK X k = ((odds X (8 * n)).drop (8 * k)).take 8 := by
  unfold bitsK odds
  rw [← List.map_drop, ← List.map_take]
  have : ((List.range (8 * n)).drop (8 * k)).take 8 = (List.range 8).map fun i => 8 * k + i := by
    apply List.ext_getElem?
    intro i
    by_cases c : i < 8
    · rw [List.getElem?_take_of_lt c, List.getElem?_drop, List.getElem?_range (by omega), List.getElem?_map, List.getElem?_range c]
      rfl
    · rw [List.getElem?_eq_none (by rw [List.length_take]; omega), List.getElem?_eq_none (by simp; omega)]
  rw [this, List.map_map]
  refine List.map_congr_left fun i _ => ?_
  show X.getD (16 * k + 1 + 2 * i) 0 = X.getD (2 * (8 * k + i) + 1) 0
  congr 1
  omega
def valsTo (X : List Int) (n k : Nat) : List Int := (List.range k).map fun j => byteZ (((odds X (8 * n)).drop (8 * j)).take 8)
theorem valsTo_more (X : List Int) {n k : Nat} (hk : k < n) : valsTo X n (k + 1) = valsTo X n k ++ [byteZ (bitsK X k)] := by
  unfold valsTo
  rw [List.range_succ, List.map_append, bitsK_eq hk]
  rfl
theorem valsTo_all {X : List Int} {n : Nat} (h : X.length = 16 * n) : valsTo X n n = valsB X := by
  unfold valsTo valsB bytesZ
  rw [odds_len, h, show 16 * n / 16 = n by omega, show 8 * n / 8 = n by omega]
def cleanTo (X : List Int) (n m : Nat) : Bool := (List.range m).all fun i => !mfmT 1 (evens X (8 * n)) (odds X (8 * n)) i
theorem cleanTo_more (X : List Int) (n m : Nat) : cleanTo X n (m + 1) = (cleanTo X n m && !mfmT 1 (evens X (8 * n)) (odds X (8 * n)) m) := by
  unfold cleanTo
  rw [List.range_succ, List.all_append]
  simp
theorem cleanTo_all {X : List Int} {n : Nat} (h : X.length = 16 * n) : cleanTo X n (8 * n) = (faultB X).isEmpty := by
  unfold cleanTo faultB mfmFa
  rw [h, show 16 * n / 16 = n by omega, evens_len]
  rw [Bool.eq_iff_iff, List.all_eq_true, List.isEmpty_iff, List.map_eq_nil_iff, List.filter_eq_nil_iff]
  constructor
  · intro hh a ha e
    have := hh a ha
    rw [e] at this
    cases this
  · intro hh a ha
    have := hh a ha
    simpa using this
theorem mk_cons {cs : List Int} : ∀ (k a : Nat) {p : Nat} {r : List Nat}, cs.length + 1 - a ≤ k → mkFrom cs a = p :: r → r = mkFrom cs (p + 48)
  | 0, a, p, r, h, e => by rw [mkFrom_end (by omega)] at e; cases e
  | k + 1, a, p, r, h, e => by
    by_cases c : a + 48 ≤ cs.length
    · by_cases m : cutA cs a 48 = marksZ
      · rw [mkFrom_yes c m] at e
        injection e with e1 e2
        subst e1
        exact e2.symm
      · rw [mkFrom_no c m] at e
        exact mk_cons k (a + 1) (by omega) e
    · rw [mkFrom_end c] at e
      cases e
theorem mk_tail {cs : List Int} : ∀ (qs : List Nat) (a : Nat) {p : Nat} {r : List Nat}, mkFrom cs a = qs ++ p :: r → r = mkFrom cs (p + 48)
  | [], a, p, r, e => mk_cons _ a (Nat.le_refl _) e
  | q :: qs, a, p, r, e => by
    have h := mk_cons _ a (Nat.le_refl _) e
    exact mk_tail qs _ h.symm
theorem mkFrom_len48 (cs : List Int) : ∀ (k a : Nat), cs.length + 1 - a ≤ k → 48 * (mkFrom cs a).length ≤ cs.length - a
  | 0, a, h => by rw [mkFrom_end (by omega)]; exact Nat.zero_le _
  | k + 1, a, h => by
    by_cases c : a + 48 ≤ cs.length
    · by_cases m : cutA cs a 48 = marksZ
      · rw [mkFrom_yes c m, List.length_cons]
        have := mkFrom_len48 cs k (a + 48) (by omega)
        omega
      · rw [mkFrom_no c m]
        have := mkFrom_len48 cs k (a + 1) (by omega)
        omega
    · rw [mkFrom_end c]; exact Nat.zero_le _
def endZ (cs : List Int) (qs : List Nat) : Int := match qs.getLast? with | none => -1 | some q => match adr cs q with | none => -1 | some _ => ((q + 160 : Nat) : Int)
theorem last_same {cs : List Int} {qs : List Nat} {p : Nat} (h : ∀ q ad gd sz, qs.getLast? = some q → adr cs q = some (ad, gd, sz) → behZ cs sz (q + 160) p = (none, false)) : fndN cs qs (some p) = fndN cs qs none := by
  rcases List.eq_nil_or_concat qs with rfl | ⟨qs', q, rfl⟩
  · rfl
  · rw [List.concat_eq_append] at h ⊢
    rw [fndN_snoc, fndN_snoc, fnd1_adr, fnd1_adr]
    cases ha : adr cs q with
    | none => rfl
    | some t =>
      obtain ⟨ad, gd, sz⟩ := t
      have := h q ad gd sz (by simp) ha
      show fndN cs qs' (some q) ++ optL (some (q, ad, gd, behZ cs sz (q + 160) p)) = _
      rw [this]
      rfl
theorem cutI_1m2 (ns : List Int) {L : Nat} (h : ns.length = L + 3) : cutI ns (some 1) (some (-2)) = (ns.drop 1).take L := by
  unfold cutI
  have h1 : HT.sIx ns.length ns.length (some (-2)) = L + 1 := by
    unfold HT.sIx
    simp
    omega
  have h2 : HT.sIx ns.length 0 (some 1) = 1 := by
    show HT.sIx ns.length 0 (some ((1 : Nat) : Int)) = 1
    rw [sIx_nat]
    omega
  rw [h1, h2]
  rfl
theorem cutI_fr (ns : List Int) (b : Nat) : cutI ns (some (b : Int)) none = ns.drop b := by
  unfold cutI
  rw [sIx_nat]
  show (ns.drop (min b ns.length)).take (ns.length - min b ns.length) = _
  by_cases h : b ≤ ns.length
  · rw [Nat.min_eq_left h, List.take_of_length_le (by rw [List.length_drop]; exact Nat.le_refl _)]
  · rw [Nat.min_eq_right (by omega), List.drop_of_length_le (Nat.le_refl _), List.drop_of_length_le (by omega), List.take_nil]
theorem cutI_up (ns : List Int) (b : Nat) : cutI ns none (some (b : Int)) = ns.take b := by
  unfold cutI
  rw [sIx_nat]
  show (ns.drop 0).take (min b ns.length - 0) = _
  rw [List.drop_zero, Nat.sub_zero]
  by_cases h : b ≤ ns.length
  · rw [Nat.min_eq_left h]
  · rw [Nat.min_eq_right (by omega), List.take_of_length_le (Nat.le_refl _), List.take_of_length_le (by omega)]
/-! ### texts of bits -/
theorem strB_len {b : Int} (h : b = 0 ∨ b = 1) : (strB b).length = 1 := by
  rcases h with rfl | rfl <;> decide
theorem strB_sum : ∀ cs : List Int, Bits cs → ((cs.map strB).map fun x => x.length).sum = cs.length
  | [], _ => rfl
  | b :: r, h => by
    rw [List.map_cons, List.map_cons, List.sum_cons, strB_sum r fun x hx => h x (List.mem_cons_of_mem _ hx), strB_len (h b List.mem_cons_self), List.length_cons]
    omega
theorem strB_fits {cs : List Int} (h : Bits cs) (hl : cs.length ≤ 100000) : ((cs.map strB).map fun x => x.length).sum + (cs.map strB).length * (Str.ofString "").length ≤ 16777216 := by
  have e : (Str.ofString "").length = 0 := by decide
  rw [strB_sum cs h, e]
  omega
theorem rng_strs (cs : List Int) : (List.range (cs.map V.int).length).map (fun i => V.str (strB (cs.getD i 0))) = (cs.map strB).map V.str := by
  apply List.ext_getElem
  · simp
  · intro k h1 h2
    simp only [List.length_map] at h2
    simp [List.getD_eq_getElem?_getD, List.getElem?_eq_getElem h2]
theorem adr_get {cs : List Int} {q : Nat} {ad : List Int} {gd : Bool} {sz : Int} (h : adr cs q = some (ad, gd, sz)) : ad[3]? = some sz := by
  unfold adr at h
  by_cases c : (valsB (behC cs q 7)).length < 7 ∨ (valsB (behC cs q 7)).getD 0 0 ≠ 254
  · rw [if_pos c] at h; cases h
  · rw [if_neg c] at h
    cases h
    have hl7 : ¬ (valsB (behC cs q 7)).length < 7 := fun h => c (.inl h)
    rw [List.getElem?_take_of_lt (by decide), List.getElem?_drop, List.getD_eq_getElem?_getD, List.getElem?_eq_getElem (show 1 + 3 < (valsB (behC cs q 7)).length by omega)]
    rfl
theorem endZ_some {cs : List Int} {qs : List Nat} (h : 0 ≤ endZ cs qs) : ∃ q ad gd sz, qs.getLast? = some q ∧ adr cs q = some (ad, gd, sz) ∧ endZ cs qs = ((q + 160 : Nat) : Int) := by
  unfold endZ at h ⊢
  cases hq : qs.getLast? with
  | none =>
    rw [hq] at h
    have h : (0 : Int) ≤ -1 := h
    omega
  | some q =>
    rw [hq] at h
    cases ha : adr cs q with
    | none =>
      have h : 0 ≤ (match adr cs q with | none => (-1 : Int) | some _ => ((q + 160 : Nat) : Int)) := h
      rw [ha] at h
      have h : (0 : Int) ≤ -1 := h
      omega
    | some t =>
      obtain ⟨ad, gd, sz⟩ := t
      exact ⟨q, ad, gd, sz, rfl, ha, by show (match adr cs q with | none => (-1 : Int) | some _ => ((q + 160 : Nat) : Int)) = _; rw [ha]⟩
theorem last_split {qs : List Nat} {q : Nat} (h : qs.getLast? = some q) : ∃ qs', qs = qs' ++ [q] := by
  rcases List.eq_nil_or_concat qs with rfl | ⟨qs', q', rfl⟩
  · cases h
  · rw [List.concat_eq_append] at h ⊢
    rw [List.getLast?_append] at h
    have : q' = q := by simpa using h
    subst this
    exact ⟨qs', rfl⟩
end Dw

namespace K75
open PySem PySem.Spec PyProof.Rows L2 Dw
def topS (i : Nat) : Stmt := PySem.Challenge.pw_discwright_k75_bytes_of_patches.main.body.getD i (.Pass ⟨0, 0, 0, 0⟩)
abbrev s_are_bytes : Stmt := topS 6
abbrev n_are_bytes : List Str := ["values", "value"]
theorem sc_are_bytes : FnScope n_are_bytes ["values"] (defScope s_are_bytes) := ⟨rfl, rfl, rfl, by decide +kernel, rfl, by decide +kernel, by decide +kernel⟩
abbrev s_crc : Stmt := topS 7
abbrev n_crc : List Str := ["values", "number", "value", "taken"]
theorem sc_crc : FnScope n_crc ["values"] (defScope s_crc) := ⟨rfl, rfl, rfl, by decide +kernel, rfl, by decide +kernel, by decide +kernel⟩
abbrev s_two_bytes : Stmt := topS 8
abbrev n_two_bytes : List Str := ["number"]
theorem sc_two_bytes : FnScope n_two_bytes ["number"] (defScope s_two_bytes) := ⟨rfl, rfl, rfl, by decide +kernel, rfl, by decide +kernel, by decide +kernel⟩
abbrev s_write_number : Stmt := topS 10
abbrev n_write_number : List Str := ["number", "values"]
theorem sc_write_number : FnScope n_write_number ["number"] (defScope s_write_number) := ⟨rfl, rfl, rfl, by decide +kernel, rfl, by decide +kernel, by decide +kernel⟩
abbrev s_read_number : Stmt := topS 11
abbrev n_read_number : List Str := ["values", "at", "end", "number", "digit"]
theorem sc_read_number : FnScope n_read_number ["values", "at"] (defScope s_read_number) := ⟨rfl, rfl, rfl, by decide +kernel, rfl, by decide +kernel, by decide +kernel⟩
abbrev s_Patchinit : Stmt := inClass (topS 15) 0
abbrev n_Patchinit : List Str := ["self", "changes", "least", "offset", "old", "new"]
theorem sc_Patchinit : FnScope n_Patchinit ["self", "changes"] (defScope s_Patchinit) := ⟨rfl, rfl, rfl, by decide +kernel, rfl, by decide +kernel, by decide +kernel⟩
abbrev s_patch_bytes : Stmt := topS 16
abbrev n_patch_bytes : List Str := ["patch", "values", "end", "offset", "old", "new"]
theorem sc_patch_bytes : FnScope n_patch_bytes ["patch"] (defScope s_patch_bytes) := ⟨rfl, rfl, rfl, by decide +kernel, rfl, by decide +kernel, by decide +kernel⟩
abbrev s_taken_bytes : Stmt := topS 17
abbrev n_taken_bytes : List Str := ["values", "at", "count"]
theorem sc_taken_bytes : FnScope n_taken_bytes ["values", "at", "count"] (defScope s_taken_bytes) := ⟨rfl, rfl, rfl, by decide +kernel, rfl, by decide +kernel, by decide +kernel⟩
abbrev s_read_changes : Stmt := topS 18
abbrev n_read_changes : List Str := ["values", "count", "at", "changes", "end", "_", "between", "old_count", "new_count", "old", "new"]
theorem sc_read_changes : FnScope n_read_changes ["values"] (defScope s_read_changes) := ⟨rfl, rfl, rfl, by decide +kernel, rfl, by decide +kernel, by decide +kernel⟩
abbrev s_read_patch : Stmt := topS 19
abbrev n_read_patch : List Str := ["values", "part"]
theorem sc_read_patch : FnScope n_read_patch ["values"] (defScope s_read_patch) := ⟨rfl, rfl, rfl, by decide +kernel, rfl, by decide +kernel, by decide +kernel⟩
abbrev s_law_pair : Stmt := topS 21
abbrev n_law_pair : List Str := ["number"]
theorem sc_law_pair : FnScope n_law_pair ["number"] (defScope s_law_pair) := ⟨rfl, rfl, rfl, by decide +kernel, rfl, by decide +kernel, by decide +kernel⟩
abbrev s_law_pool : Stmt := topS 22
abbrev n_law_pool : List Str := ["script", "salt", "cell"]
theorem sc_law_pool : FnScope n_law_pool ["script"] (defScope s_law_pool) := ⟨rfl, rfl, rfl, by decide +kernel, rfl, by decide +kernel, by decide +kernel⟩
abbrev s_law_spread : Stmt := topS 23
abbrev n_law_spread : List Str := ["cell", "mixed", "wide", "k"]
theorem sc_law_spread : FnScope n_law_spread ["cell"] (defScope s_law_spread) := ⟨rfl, rfl, rfl, by decide +kernel, rfl, by decide +kernel, by decide +kernel⟩
abbrev s_law_draw : Stmt := topS 24
abbrev n_law_draw : List Str := ["pool", "many", "cell", "mixed", "value"]
theorem sc_law_draw : FnScope n_law_draw ["pool", "many"] (defScope s_law_draw) := ⟨rfl, rfl, rfl, by decide +kernel, rfl, by decide +kernel, by decide +kernel⟩
abbrev s_law_same : Stmt := topS 25
abbrev n_law_same : List Str := ["actual", "due", "k"]
theorem sc_law_same : FnScope n_law_same ["actual", "due"] (defScope s_law_same) := ⟨rfl, rfl, rfl, by decide +kernel, rfl, by decide +kernel, by decide +kernel⟩
abbrev s_law_or : Stmt := topS 26
abbrev n_law_or : List Str := ["a", "b"]
theorem sc_law_or : FnScope n_law_or ["a", "b"] (defScope s_law_or) := ⟨rfl, rfl, rfl, by decide +kernel, rfl, by decide +kernel, by decide +kernel⟩
abbrev s_law_check : Stmt := topS 27
abbrev n_law_check : List Str := ["values", "number", "value", "k", "top"]
theorem sc_law_check : FnScope n_law_check ["values"] (defScope s_law_check) := ⟨rfl, rfl, rfl, by decide +kernel, rfl, by decide +kernel, by decide +kernel⟩
abbrev s_law_digits : Stmt := topS 28
abbrev n_law_digits : List Str := ["number", "values", "k"]
theorem sc_law_digits : FnScope n_law_digits ["number"] (defScope s_law_digits) := ⟨rfl, rfl, rfl, by decide +kernel, rfl, by decide +kernel, by decide +kernel⟩
abbrev s_law_digits_at : Stmt := topS 29
abbrev n_law_digits_at : List Str := ["values", "at", "total", "scale", "k"]
theorem sc_law_digits_at : FnScope n_law_digits_at ["values", "at"] (defScope s_law_digits_at) := ⟨rfl, rfl, rfl, by decide +kernel, rfl, by decide +kernel, by decide +kernel⟩
abbrev s_law_sealed : Stmt := topS 30
abbrev n_law_sealed : List Str := ["values"]
theorem sc_law_sealed : FnScope n_law_sealed ["values"] (defScope s_law_sealed) := ⟨rfl, rfl, rfl, by decide +kernel, rfl, by decide +kernel, by decide +kernel⟩
abbrev s_law_patch_row : Stmt := topS 31
abbrev n_law_patch_row : List Str := ["changes", "values", "end", "offset", "old", "new"]
theorem sc_law_patch_row : FnScope n_law_patch_row ["changes"] (defScope s_law_patch_row) := ⟨rfl, rfl, rfl, by decide +kernel, rfl, by decide +kernel, by decide +kernel⟩
abbrev s_law_read_patch : Stmt := topS 32
abbrev n_law_read_patch : List Str := ["values", "found", "many", "at", "changes", "end", "k", "numbers", "j", "old", "new"]
theorem sc_law_read_patch : FnScope n_law_read_patch ["values"] (defScope s_law_read_patch) := ⟨rfl, rfl, rfl, by decide +kernel, rfl, by decide +kernel, by decide +kernel⟩
abbrev s_law : Stmt := topS 33
abbrev n_law : List Str := ["script", "pool", "changes", "at", "k", "old", "j", "new", "values", "way", "spot", "body", "near", "due", "told", "e"]
theorem sc_law : FnScope n_law ["script"] (defScope s_law) := ⟨rfl, rfl, rfl, by decide +kernel, rfl, by decide +kernel, by decide +kernel⟩
/-- where the defs stand -/
structure Ad where
  f_are_bytes : Addr
  d_are_bytes : FuncData
  f_crc : Addr
  d_crc : FuncData
  f_two_bytes : Addr
  d_two_bytes : FuncData
  f_write_number : Addr
  d_write_number : FuncData
  f_read_number : Addr
  d_read_number : FuncData
  f_Patchinit : Addr
  d_Patchinit : FuncData
  f_patch_bytes : Addr
  d_patch_bytes : FuncData
  f_taken_bytes : Addr
  d_taken_bytes : FuncData
  f_read_changes : Addr
  d_read_changes : FuncData
  f_read_patch : Addr
  d_read_patch : FuncData
  f_law_pair : Addr
  d_law_pair : FuncData
  f_law_pool : Addr
  d_law_pool : FuncData
  f_law_spread : Addr
  d_law_spread : FuncData
  f_law_draw : Addr
  d_law_draw : FuncData
  f_law_same : Addr
  d_law_same : FuncData
  f_law_or : Addr
  d_law_or : FuncData
  f_law_check : Addr
  d_law_check : FuncData
  f_law_digits : Addr
  d_law_digits : FuncData
  f_law_digits_at : Addr
  d_law_digits_at : FuncData
  f_law_sealed : Addr
  d_law_sealed : FuncData
  f_law_patch_row : Addr
  d_law_patch_row : FuncData
  f_law_read_patch : Addr
  d_law_read_patch : FuncData
  f_law : Addr
  d_law : FuncData
  u_MOST_CHANGES : Value
  c_Patch : Addr
  c_InvalidPatch : Addr
  c_BadBytes : Addr
  c_FIRST_BYTES : Addr
/-- what the top has written -/
structure Tx (K : PySem.W.Frag) (mg : Str → Option Value) (A : Ad) : Prop where
  F_are_bytes : Fun K "are_bytes" "are_bytes" s_are_bytes A.f_are_bytes A.d_are_bytes
  b_are_bytes : Binds K A.d_are_bytes ["values"] []
  g_are_bytes : mg "are_bytes" = some (.ref A.f_are_bytes)
  F_crc : Fun K "crc" "crc" s_crc A.f_crc A.d_crc
  b_crc : Binds K A.d_crc ["values"] []
  g_crc : mg "crc" = some (.ref A.f_crc)
  F_two_bytes : Fun K "two_bytes" "two_bytes" s_two_bytes A.f_two_bytes A.d_two_bytes
  b_two_bytes : Binds K A.d_two_bytes ["number"] []
  g_two_bytes : mg "two_bytes" = some (.ref A.f_two_bytes)
  F_write_number : Fun K "write_number" "write_number" s_write_number A.f_write_number A.d_write_number
  b_write_number : Binds K A.d_write_number ["number"] []
  g_write_number : mg "write_number" = some (.ref A.f_write_number)
  F_read_number : Fun K "read_number" "read_number" s_read_number A.f_read_number A.d_read_number
  b_read_number : Binds K A.d_read_number ["values", "at"] []
  g_read_number : mg "read_number" = some (.ref A.f_read_number)
  F_Patchinit : Fun K "__init__" "Patch.__init__" s_Patchinit A.f_Patchinit A.d_Patchinit
  b_Patchinit : Binds K A.d_Patchinit ["self", "changes"] []
  F_patch_bytes : Fun K "patch_bytes" "patch_bytes" s_patch_bytes A.f_patch_bytes A.d_patch_bytes
  b_patch_bytes : Binds K A.d_patch_bytes ["patch"] []
  g_patch_bytes : mg "patch_bytes" = some (.ref A.f_patch_bytes)
  F_taken_bytes : Fun K "taken_bytes" "taken_bytes" s_taken_bytes A.f_taken_bytes A.d_taken_bytes
  b_taken_bytes : Binds K A.d_taken_bytes ["values", "at", "count"] []
  g_taken_bytes : mg "taken_bytes" = some (.ref A.f_taken_bytes)
  F_read_changes : Fun K "read_changes" "read_changes" s_read_changes A.f_read_changes A.d_read_changes
  b_read_changes : Binds K A.d_read_changes ["values"] []
  g_read_changes : mg "read_changes" = some (.ref A.f_read_changes)
  F_read_patch : Fun K "read_patch" "read_patch" s_read_patch A.f_read_patch A.d_read_patch
  b_read_patch : Binds K A.d_read_patch ["values"] []
  g_read_patch : mg "read_patch" = some (.ref A.f_read_patch)
  F_law_pair : Fun K "_law_pair" "_law_pair" s_law_pair A.f_law_pair A.d_law_pair
  b_law_pair : Binds K A.d_law_pair ["number"] []
  g_law_pair : mg "_law_pair" = some (.ref A.f_law_pair)
  F_law_pool : Fun K "_law_pool" "_law_pool" s_law_pool A.f_law_pool A.d_law_pool
  b_law_pool : Binds K A.d_law_pool ["script"] []
  g_law_pool : mg "_law_pool" = some (.ref A.f_law_pool)
  F_law_spread : Fun K "_law_spread" "_law_spread" s_law_spread A.f_law_spread A.d_law_spread
  b_law_spread : Binds K A.d_law_spread ["cell"] []
  g_law_spread : mg "_law_spread" = some (.ref A.f_law_spread)
  F_law_draw : Fun K "_law_draw" "_law_draw" s_law_draw A.f_law_draw A.d_law_draw
  b_law_draw : Binds K A.d_law_draw ["pool", "many"] []
  g_law_draw : mg "_law_draw" = some (.ref A.f_law_draw)
  F_law_same : Fun K "_law_same" "_law_same" s_law_same A.f_law_same A.d_law_same
  b_law_same : Binds K A.d_law_same ["actual", "due"] []
  g_law_same : mg "_law_same" = some (.ref A.f_law_same)
  F_law_or : Fun K "_law_or" "_law_or" s_law_or A.f_law_or A.d_law_or
  b_law_or : Binds K A.d_law_or ["a", "b"] []
  g_law_or : mg "_law_or" = some (.ref A.f_law_or)
  F_law_check : Fun K "_law_check" "_law_check" s_law_check A.f_law_check A.d_law_check
  b_law_check : Binds K A.d_law_check ["values"] []
  g_law_check : mg "_law_check" = some (.ref A.f_law_check)
  F_law_digits : Fun K "_law_digits" "_law_digits" s_law_digits A.f_law_digits A.d_law_digits
  b_law_digits : Binds K A.d_law_digits ["number"] []
  g_law_digits : mg "_law_digits" = some (.ref A.f_law_digits)
  F_law_digits_at : Fun K "_law_digits_at" "_law_digits_at" s_law_digits_at A.f_law_digits_at A.d_law_digits_at
  b_law_digits_at : Binds K A.d_law_digits_at ["values", "at"] []
  g_law_digits_at : mg "_law_digits_at" = some (.ref A.f_law_digits_at)
  F_law_sealed : Fun K "_law_sealed" "_law_sealed" s_law_sealed A.f_law_sealed A.d_law_sealed
  b_law_sealed : Binds K A.d_law_sealed ["values"] []
  g_law_sealed : mg "_law_sealed" = some (.ref A.f_law_sealed)
  F_law_patch_row : Fun K "_law_patch_row" "_law_patch_row" s_law_patch_row A.f_law_patch_row A.d_law_patch_row
  b_law_patch_row : Binds K A.d_law_patch_row ["changes"] []
  g_law_patch_row : mg "_law_patch_row" = some (.ref A.f_law_patch_row)
  F_law_read_patch : Fun K "_law_read_patch" "_law_read_patch" s_law_read_patch A.f_law_read_patch A.d_law_read_patch
  b_law_read_patch : Binds K A.d_law_read_patch ["values"] []
  g_law_read_patch : mg "_law_read_patch" = some (.ref A.f_law_read_patch)
  F_law : Fun K "law" "law" s_law A.f_law A.d_law
  b_law : Binds K A.d_law ["script"] []
  g_law : mg "law" = some (.ref A.f_law)
  z_all : mg "all" = none
  z_bool : mg "bool" = none
  z_int : mg "int" = none
  z_isinstance : mg "isinstance" = none
  z_len : mg "len" = none
  z_list : mg "list" = none
  z_min : mg "min" = none
  z_range : mg "range" = none
  z_reversed : mg "reversed" = none
  z_str : mg "str" = none
  z_tuple : mg "tuple" = none
  c_MOST_CHANGES : mg "MOST_CHANGES" = some A.u_MOST_CHANGES
  r_MOST_CHANGES : RelV (.int 500) A.u_MOST_CHANGES
  gc_Patch : mg "Patch" = some (.ref A.c_Patch)
  cl_Patch : Cls K A.c_Patch
  mk_Patch : Mk K A.c_Patch A.f_Patchinit
  na_Patch_changes : NoAttr K A.c_Patch "changes"
  x_InvalidPatch : ExcF K mg "InvalidPatch" A.c_InvalidPatch
  x_BadBytes : ExcF K mg "BadBytes" A.c_BadBytes
  ct_FIRST_BYTES : mg "FIRST_BYTES" = some (.ref A.c_FIRST_BYTES)
  ty_FIRST_BYTES : ∃ o, K.lookup A.c_FIRST_BYTES = some o ∧ o.cls = .type "tuple" ∧ o.dict = none
  tt_FIRST_BYTES : ∀ H, SqT K H A.c_FIRST_BYTES (([80, 65] : List Int).map V.int)
  i_BadBytes : ExcC K A.c_BadBytes
  kit_BadBytes_InvalidPatch : PySem.W.kitOne K (.ref A.c_BadBytes) (.ref A.c_InvalidPatch) = some false
  exm_BadBytes_InvalidPatch : PySem.W.exmOne K (.ref A.c_BadBytes) (.ref A.c_InvalidPatch) = some false
section
variable {P : Program} {w : World} {K : PySem.W.Frag} {mg : Str → Option Value} {base : Heap} {A : Ad}
def spAreS (K : PySem.W.Frag) : Sp := fun vs H Q _ => ∃ (a : Addr) (ns : List Int), vs = [.ref a] ∧ (SqL K H a (ns.map V.int) ∨ SqT K H a (ns.map V.int)) ∧ ns.length ≤ 10000 ∧ ∀ H', Same H H' → Q (.bl (ns.all fun z => decide (0 ≤ z) && decide (z ≤ 255))) H'
theorem ok_are_bytes (T : Tx K mg A) : FnOk P w K mg base CX0 1 A.f_are_bytes A.d_are_bytes ["values"] (spAreS K) := by
  refine T.F_are_bytes.ok sc_are_bytes (fun vs H Q E h => ?_) (fun cdv A' outer s H vs Q E hr h => ?_)
  · obtain ⟨a, ns, rfl, _⟩ := h
    rfl
  obtain ⟨a, ns, rfl, hA, hl, k⟩ := h
  refine ⟨_, (pss_one (ps_ret (pe_callB (cr_allB rfl) (by rfl) T.z_all (by decide +kernel) (pa_cons (pe_lc (own := [("value", 1)]) (g := (gName 1)) (tt := tYes) rfl sc_are_bytes.nd (pi_seqA (pv 0)) (blkOk_by (N := n_are_bytes) (sc := (defScope s_are_bytes)) (by decide +kernel)) (fun _ _ _ _ _ => (pg_name (i := 1) sc_are_bytes.nd rfl (Or.inl rfl))) (fun _ _ _ _ _ => pts_nil) (fun _ _ _ _ _ => (pe_chain op_le op_le pe_int (pv 1) pe_int (by with_unfolding_all rfl)))) pa_nil)))), ?_⟩
  try simp only [tSeq, tAsg, tVar, tC, tOp, rI0, rI, tUn, rU, tIfS, tTest, tRet, tRetN, tDrop, tCB, tCons, tNil, tLst, tLstI, tTup, gName, tB, tAnd, tOr, tNot, tAndV, tOrV, tNotV, tIf, tNext, tBreak, tCont, gSub, tCall, tCallN, tAug, ipI, tBML, tBML0, isL_IL, isL_lst, L2.start, List.map_cons, List.map_nil, List.length_cons, List.length_nil, List.cons_append, List.nil_append, List.getElem?_cons_succ, List.getElem?_cons_zero, Option.some.injEq, exists_eq_left', exists_eq_left, exists_and_left, V.int.injEq, V.ref.injEq, V.bl.injEq, V.str.injEq, List.set_cons_zero, List.set_cons_succ, List.cons.injEq, and_true, true_and, Nat.reduceAdd, Nat.reduceSub, List.replicate_succ, List.replicate_zero, rIxI, rIxH, rIxTH, rSetI, rSetH, rCatI, rRepI, rSlI, rAppendI, rExtendI, decide_eq_true_eq, upd_same, IL_inj, HO.lst.injEq, toInts_cons, toInts_nil, Option.map_some, if_true, if_false, Bool.true_eq_false, Bool.false_eq_true, Bool.not_true, Bool.not_false, Bool.not_eq_true', decide_eq_false_iff_not, atI_0, atI_1, atI_2, atI_3, atI_4, Int.reduceToNat, Int.reduceLT, Int.reduceLE, Int.reduceNeg, Int.reducePow, cast_lit, upd_upd, Int.reduceAdd, Int.reduceMul, Int.reduceSub, Nat.reduceLT, Nat.reduceLeDiff, cmul_r, cdiv_r, tSl, tPart, tNoPart, rEq, rNe, scal_nn, scal_ii, scal_bb, scal_ss, scal_is, scal_si, V.ty.injEq, and_assoc, tyH_non, tyH_bl, tyH_int, tyH_str, tyH_ref, tyO_lst, tyO_IL, tyO_tup, itO_lst, itO_tup, itO_IL, Dw.rIxD, rLenI, rLenH, rLenTH, rLenQ, rLenB, rListI, Dw.rListS, rIntI, rIntB, rSumI, rIsiD, rIsX, tCallS, tMakeS, tMake, tMakeC, tMakeSC, tFld, sFld, HO.ins.injEq, HO.tup.injEq, cxOf_K, nox_K, tr_K, suite_K, rTupleI, rAllB, rAnyB, BL_inj, tChain, wOnly, wAs, wMany, rEqI, rNeI, Dw.rMax2, rMin2, Dw.rIsN, rIsNotN, rStrIn, rStrNotIn, not_true_eq_false, not_false_eq_true, reduceCtorEq, cl_bool, cl_int, cl_str, cl_list, cl_tuple, isB_NoneType_bool, isB_NoneType_int, isB_NoneType_str, isB_NoneType_list, isB_NoneType_tuple, isB_bool_bool, isB_bool_int, isB_bool_str, isB_bool_list, isB_bool_tuple, isB_int_bool, isB_int_int, isB_int_str, isB_int_list, isB_int_tuple, isB_str_bool, isB_str_int, isB_str_str, isB_str_list, isB_str_tuple, isB_list_bool, isB_list_int, isB_list_str, isB_list_list, isB_list_tuple, isB_tuple_bool, isB_tuple_int, isB_tuple_str, isB_tuple_list, isB_tuple_tuple, rSlCI, iRng3, iRev, gCons, gNil, iZip, iEnum, tLc_eq, tFor_eq, iRng1, iRng2, iList, iTup, rSetD, iKeys, tDNewK, Int.reducePow, Int.reduceNeg, iEz, tPar, tRevL, Dw.rSetL, Dw.rIxL, rIxE, iSeqA, rListTI]
  have core : ∀ {H1 : Hp} {D : Addr}, Same H H1 → H1 D = some (.lst ((List.range ns.length).map fun i => V.bl (decide (0 ≤ ns.getD i 0) && decide (ns.getD i 0 ≤ 255)))) → ∃ x, H1 D = some (BL x) ∧ Q (V.bl (x.all id)) H1 := by
    intro H1 D s1 e1
    have e2 := BL_of e1
    refine ⟨_, e2, ?_⟩
    have ea := all_items (p := fun z => decide (0 ≤ z) && decide (z ≤ 255)) (ns := ns)
    rw [ea]
    exact k _ s1
  have step : ∀ (i : Nat) (v : V) (H3 : Hp) (Q' : VK), (ns.map V.int)[i]? = some v → Same H H3 → (∀ H4, Same H3 H4 → Q' (V.bl (decide (0 ≤ ns.getD i 0) && decide (ns.getD i 0 ≤ 255))) H4) → tChain (rI0 fun i j => V.bl (decide (i ≤ j))) (rI0 fun i j => V.bl (decide (i ≤ j))) (tC (V.int 0)) (tVar 1) (tC (V.int 255)) [some (V.ref a), some v] H3 Q' := by
    intro i v H3 Q' hi s1 hq
    obtain ⟨z, rfl, hz⟩ := ints_at hi
    have ez : ns.getD i 0 = z := by rw [List.getD_eq_getElem?_getD, hz]; rfl
    have hq2 := hq H3 (Same.refl _)
    rw [ez] at hq2
    try simp only [tSeq, tAsg, tVar, tC, tOp, rI0, rI, tUn, rU, tIfS, tTest, tRet, tRetN, tDrop, tCB, tCons, tNil, tLst, tLstI, tTup, gName, tB, tAnd, tOr, tNot, tAndV, tOrV, tNotV, tIf, tNext, tBreak, tCont, gSub, tCall, tCallN, tAug, ipI, tBML, tBML0, isL_IL, isL_lst, L2.start, List.map_cons, List.map_nil, List.length_cons, List.length_nil, List.cons_append, List.nil_append, List.getElem?_cons_succ, List.getElem?_cons_zero, Option.some.injEq, exists_eq_left', exists_eq_left, exists_and_left, V.int.injEq, V.ref.injEq, V.bl.injEq, V.str.injEq, List.set_cons_zero, List.set_cons_succ, List.cons.injEq, and_true, true_and, Nat.reduceAdd, Nat.reduceSub, List.replicate_succ, List.replicate_zero, rIxI, rIxH, rIxTH, rSetI, rSetH, rCatI, rRepI, rSlI, rAppendI, rExtendI, decide_eq_true_eq, upd_same, IL_inj, HO.lst.injEq, toInts_cons, toInts_nil, Option.map_some, if_true, if_false, Bool.true_eq_false, Bool.false_eq_true, Bool.not_true, Bool.not_false, Bool.not_eq_true', decide_eq_false_iff_not, atI_0, atI_1, atI_2, atI_3, atI_4, Int.reduceToNat, Int.reduceLT, Int.reduceLE, Int.reduceNeg, Int.reducePow, cast_lit, upd_upd, Int.reduceAdd, Int.reduceMul, Int.reduceSub, Nat.reduceLT, Nat.reduceLeDiff, cmul_r, cdiv_r, tSl, tPart, tNoPart, rEq, rNe, scal_nn, scal_ii, scal_bb, scal_ss, scal_is, scal_si, V.ty.injEq, and_assoc, tyH_non, tyH_bl, tyH_int, tyH_str, tyH_ref, tyO_lst, tyO_IL, tyO_tup, itO_lst, itO_tup, itO_IL, Dw.rIxD, rLenI, rLenH, rLenTH, rLenQ, rLenB, rListI, Dw.rListS, rIntI, rIntB, rSumI, rIsiD, rIsX, tCallS, tMakeS, tMake, tMakeC, tMakeSC, tFld, sFld, HO.ins.injEq, HO.tup.injEq, cxOf_K, nox_K, tr_K, suite_K, rTupleI, rAllB, rAnyB, BL_inj, tChain, wOnly, wAs, wMany, rEqI, rNeI, Dw.rMax2, rMin2, Dw.rIsN, rIsNotN, rStrIn, rStrNotIn, not_true_eq_false, not_false_eq_true, reduceCtorEq, cl_bool, cl_int, cl_str, cl_list, cl_tuple, isB_NoneType_bool, isB_NoneType_int, isB_NoneType_str, isB_NoneType_list, isB_NoneType_tuple, isB_bool_bool, isB_bool_int, isB_bool_str, isB_bool_list, isB_bool_tuple, isB_int_bool, isB_int_int, isB_int_str, isB_int_list, isB_int_tuple, isB_str_bool, isB_str_int, isB_str_str, isB_str_list, isB_str_tuple, isB_list_bool, isB_list_int, isB_list_str, isB_list_list, isB_list_tuple, isB_tuple_bool, isB_tuple_int, isB_tuple_str, isB_tuple_list, isB_tuple_tuple, rSlCI, iRng3, iRev, gCons, gNil, iZip, iEnum, tLc_eq, tFor_eq, iRng1, iRng2, iList, iTup, rSetD, iKeys, tDNewK, Int.reducePow, Int.reduceNeg, iEz, tPar, tRevL, Dw.rSetL, Dw.rIxL, rIxE, iSeqA, rListTI, wipe]
    by_cases c : 0 ≤ z
    · rw [if_pos c]
      rw [decide_eq_true c, Bool.true_and] at hq2
      exact hq2
    · rw [if_neg c]
      rw [decide_eq_false c, Bool.false_and] at hq2
      exact hq2
  rcases hA with hA | hA
  · refine ⟨_, .inl ⟨hA, fun D hD => ?_⟩⟩
    refine lc_listV (K := K) (a := a) (xs := ns.map V.int) (f := fun i => V.bl (decide (0 ≤ ns.getD i 0) && decide (ns.getD i 0 ≤ 255))) (by rw [List.length_map]; omega) hA hD (fun _ => rfl) step fun H1 s1 e1 => ?_
    rw [List.length_map] at e1
    exact core s1 e1
  · refine ⟨_, .inr ⟨hA, fun D hD => ?_⟩⟩
    refine lc_tupV (K := K) (a := a) (xs := ns.map V.int) (f := fun i => V.bl (decide (0 ≤ ns.getD i 0) && decide (ns.getD i 0 ≤ 255))) (by rw [List.length_map]; omega) hA hD (fun _ => rfl) step fun H1 s1 e1 => ?_
    rw [List.length_map] at e1
    exact core s1 e1
end
section
variable {P : Program} {w : World} {K : PySem.W.Frag} {mg : Str → Option Value} {base : Heap} {A : Ad}
theorem ok_crc (T : Tx K mg A) : FnOk P w K mg base CX0 1 A.f_crc A.d_crc ["values"] spCrc := by
  refine T.F_crc.ok sc_crc (fun vs H Q E h => ?_) (fun cdv A' outer s H vs Q E hr h => ?_)
  · obtain ⟨a, ns, rfl, _⟩ := h
    rfl
  obtain ⟨a, ns, rfl, hA, hb, q⟩ := h
  refine ⟨_, (pss_cons (ps_set (i := 1) sc_crc.nd rfl (Or.inl rfl) pe_int)
      (pss_cons (ps_for PassesOwn.never rfl (pi_list (pv 0)) (pg_name (i := 2) sc_crc.nd rfl (Or.inl rfl))
        (pss_cons (ps_set (i := 3) sc_crc.nd rfl (Or.inl rfl) (pe_op op_xor (pe_op op_shr (pv 1) pe_int) (pv 2)))
      (pss_cons (ps_set (i := 3) sc_crc.nd rfl (Or.inl rfl) (pe_op op_xor (pv 3) (pe_op op_shr (pv 3) pe_int)))
      (pss_one (ps_set (i := 1) sc_crc.nd rfl (Or.inl rfl) (pe_op op_and (pe_op op_xor (pe_op op_xor (pe_op op_xor (pe_op op_shl (pv 1) pe_int) (pe_op op_shl (pv 3) pe_int)) (pe_op op_shl (pv 3) pe_int)) (pv 3)) pe_int))))))
      (pss_one (ps_ret (pv 1))))), ?_⟩
  obtain ⟨I, hI⟩ : ∃ F : Nat → L2.St → Hp → Prop, F = (fun i σ H' => H' = H ∧ ∃ x y, σ = [some (V.ref a), some (V.int (crcZ (ns.take i))), x, y]) := ⟨_, rfl⟩
  try simp only [tSeq, tAsg, tVar, tC, tOp, rI0, rI, tUn, rU, tIfS, tTest, tRet, tRetN, tDrop, tCB, tCons, tNil, tLst, tLstI, tTup, gName, tB, tAnd, tOr, tNot, tAndV, tOrV, tNotV, tIf, tNext, tBreak, tCont, gSub, tCall, tCallN, tAug, ipI, tBML, tBML0, isL_IL, isL_lst, L2.start, List.map_cons, List.map_nil, List.length_cons, List.length_nil, List.cons_append, List.nil_append, List.getElem?_cons_succ, List.getElem?_cons_zero, Option.some.injEq, exists_eq_left', exists_eq_left, exists_and_left, V.int.injEq, V.ref.injEq, V.bl.injEq, V.str.injEq, List.set_cons_zero, List.set_cons_succ, List.cons.injEq, and_true, true_and, Nat.reduceAdd, Nat.reduceSub, List.replicate_succ, List.replicate_zero, rIxI, rIxH, rIxTH, rSetI, rSetH, rCatI, rRepI, rSlI, rAppendI, rExtendI, decide_eq_true_eq, upd_same, IL_inj, HO.lst.injEq, toInts_cons, toInts_nil, Option.map_some, if_true, if_false, Bool.true_eq_false, Bool.false_eq_true, Bool.not_true, Bool.not_false, Bool.not_eq_true', decide_eq_false_iff_not, atI_0, atI_1, atI_2, atI_3, atI_4, Int.reduceToNat, Int.reduceLT, Int.reduceLE, Int.reduceNeg, Int.reducePow, cast_lit, upd_upd, Int.reduceAdd, Int.reduceMul, Int.reduceSub, Nat.reduceLT, Nat.reduceLeDiff, cmul_r, cdiv_r, tSl, tPart, tNoPart, rEq, rNe, scal_nn, scal_ii, scal_bb, scal_ss, scal_is, scal_si, V.ty.injEq, and_assoc, tyH_non, tyH_bl, tyH_int, tyH_str, tyH_ref, tyO_lst, tyO_IL, tyO_tup, itO_lst, itO_tup, itO_IL, Dw.rIxD, rLenI, rLenH, rLenTH, rLenQ, rLenB, rListI, Dw.rListS, rIntI, rIntB, rSumI, rIsiD, rIsX, tCallS, tMakeS, tMake, tMakeC, tMakeSC, tFld, sFld, HO.ins.injEq, HO.tup.injEq, cxOf_K, nox_K, tr_K, suite_K, rTupleI, rAllB, rAnyB, BL_inj, tChain, wOnly, wAs, wMany, rEqI, rNeI, Dw.rMax2, rMin2, Dw.rIsN, rIsNotN, rStrIn, rStrNotIn, not_true_eq_false, not_false_eq_true, reduceCtorEq, cl_bool, cl_int, cl_str, cl_list, cl_tuple, isB_NoneType_bool, isB_NoneType_int, isB_NoneType_str, isB_NoneType_list, isB_NoneType_tuple, isB_bool_bool, isB_bool_int, isB_bool_str, isB_bool_list, isB_bool_tuple, isB_int_bool, isB_int_int, isB_int_str, isB_int_list, isB_int_tuple, isB_str_bool, isB_str_int, isB_str_str, isB_str_list, isB_str_tuple, isB_list_bool, isB_list_int, isB_list_str, isB_list_list, isB_list_tuple, isB_tuple_bool, isB_tuple_int, isB_tuple_str, isB_tuple_list, isB_tuple_tuple, iEz, tPar, tRevL, Dw.rSetL, Dw.rIxL, rIxE, iSeqA, rListTI]
  refine ⟨_, rfl, a, rfl, ⟨_, .of hA⟩, for_list (xs := ns.map V.int) I (by rw [hI]; exact ⟨rfl, none, none, rfl⟩) ?_ ?_ ?_⟩
  · intro i σ H' hi h
    rw [hI] at h
    obtain ⟨rfl, _⟩ := h
    exact .of hA
  · intro i v σ H' hi h
    rw [hI] at h
    obtain ⟨rfl, x, y, rfl⟩ := h
    obtain ⟨z, rfl, hz⟩ := ints_at hi
    obtain ⟨v, rfl, hv⟩ := bytes_at hb hz
    have hn := crcN_lt ((ns.take i).map Int.toNat)
    have hm := crcN_more hz
    unfold crcZ
    generalize crcN ((ns.take i).map Int.toNat) = n at hn hm
    have ht := takenN_lt hn hv
    try simp only [tSeq, tAsg, tVar, tC, tOp, rI0, rI, tUn, rU, tIfS, tTest, tRet, tRetN, tDrop, tCB, tCons, tNil, tLst, tLstI, tTup, gName, tB, tAnd, tOr, tNot, tAndV, tOrV, tNotV, tIf, tNext, tBreak, tCont, gSub, tCall, tCallN, tAug, ipI, tBML, tBML0, isL_IL, isL_lst, L2.start, List.map_cons, List.map_nil, List.length_cons, List.length_nil, List.cons_append, List.nil_append, List.getElem?_cons_succ, List.getElem?_cons_zero, Option.some.injEq, exists_eq_left', exists_eq_left, exists_and_left, V.int.injEq, V.ref.injEq, V.bl.injEq, V.str.injEq, List.set_cons_zero, List.set_cons_succ, List.cons.injEq, and_true, true_and, Nat.reduceAdd, Nat.reduceSub, List.replicate_succ, List.replicate_zero, rIxI, rIxH, rIxTH, rSetI, rSetH, rCatI, rRepI, rSlI, rAppendI, rExtendI, decide_eq_true_eq, upd_same, IL_inj, HO.lst.injEq, toInts_cons, toInts_nil, Option.map_some, if_true, if_false, Bool.true_eq_false, Bool.false_eq_true, Bool.not_true, Bool.not_false, Bool.not_eq_true', decide_eq_false_iff_not, atI_0, atI_1, atI_2, atI_3, atI_4, Int.reduceToNat, Int.reduceLT, Int.reduceLE, Int.reduceNeg, Int.reducePow, cast_lit, upd_upd, Int.reduceAdd, Int.reduceMul, Int.reduceSub, Nat.reduceLT, Nat.reduceLeDiff, cmul_r, cdiv_r, tSl, tPart, tNoPart, rEq, rNe, scal_nn, scal_ii, scal_bb, scal_ss, scal_is, scal_si, V.ty.injEq, and_assoc, tyH_non, tyH_bl, tyH_int, tyH_str, tyH_ref, tyO_lst, tyO_IL, tyO_tup, itO_lst, itO_tup, itO_IL, Dw.rIxD, rLenI, rLenH, rLenTH, rLenQ, rLenB, rListI, Dw.rListS, rIntI, rIntB, rSumI, rIsiD, rIsX, tCallS, tMakeS, tMake, tMakeC, tMakeSC, tFld, sFld, HO.ins.injEq, HO.tup.injEq, cxOf_K, nox_K, tr_K, suite_K, rTupleI, rAllB, rAnyB, BL_inj, tChain, wOnly, wAs, wMany, rEqI, rNeI, Dw.rMax2, rMin2, Dw.rIsN, rIsNotN, rStrIn, rStrNotIn, not_true_eq_false, not_false_eq_true, reduceCtorEq, cl_bool, cl_int, cl_str, cl_list, cl_tuple, isB_NoneType_bool, isB_NoneType_int, isB_NoneType_str, isB_NoneType_list, isB_NoneType_tuple, isB_bool_bool, isB_bool_int, isB_bool_str, isB_bool_list, isB_bool_tuple, isB_int_bool, isB_int_int, isB_int_str, isB_int_list, isB_int_tuple, isB_str_bool, isB_str_int, isB_str_str, isB_str_list, isB_str_tuple, isB_list_bool, isB_list_int, isB_list_str, isB_list_list, isB_list_tuple, isB_tuple_bool, isB_tuple_int, isB_tuple_str, isB_tuple_list, isB_tuple_tuple, iEz, tPar, tRevL, Dw.rSetL, Dw.rIxL, rIxE, iSeqA, rListTI, takenZ, stepZ]
    refine ⟨⟨by decide, by decide, by omega⟩, ⟨by decide, by decide, by omega⟩, ⟨by decide, by decide, by omega⟩, ?_⟩
    rw [hI, ← hm]
    exact ⟨rfl, _, _, rfl⟩
  · intro σ H' h
    rw [hI] at h
    obtain ⟨rfl, x, y, rfl⟩ := h
    try simp only [tSeq, tAsg, tVar, tC, tOp, rI0, rI, tUn, rU, tIfS, tTest, tRet, tRetN, tDrop, tCB, tCons, tNil, tLst, tLstI, tTup, gName, tB, tAnd, tOr, tNot, tAndV, tOrV, tNotV, tIf, tNext, tBreak, tCont, gSub, tCall, tCallN, tAug, ipI, tBML, tBML0, isL_IL, isL_lst, L2.start, List.map_cons, List.map_nil, List.length_cons, List.length_nil, List.cons_append, List.nil_append, List.getElem?_cons_succ, List.getElem?_cons_zero, Option.some.injEq, exists_eq_left', exists_eq_left, exists_and_left, V.int.injEq, V.ref.injEq, V.bl.injEq, V.str.injEq, List.set_cons_zero, List.set_cons_succ, List.cons.injEq, and_true, true_and, Nat.reduceAdd, Nat.reduceSub, List.replicate_succ, List.replicate_zero, rIxI, rIxH, rIxTH, rSetI, rSetH, rCatI, rRepI, rSlI, rAppendI, rExtendI, decide_eq_true_eq, upd_same, IL_inj, HO.lst.injEq, toInts_cons, toInts_nil, Option.map_some, if_true, if_false, Bool.true_eq_false, Bool.false_eq_true, Bool.not_true, Bool.not_false, Bool.not_eq_true', decide_eq_false_iff_not, atI_0, atI_1, atI_2, atI_3, atI_4, Int.reduceToNat, Int.reduceLT, Int.reduceLE, Int.reduceNeg, Int.reducePow, cast_lit, upd_upd, Int.reduceAdd, Int.reduceMul, Int.reduceSub, Nat.reduceLT, Nat.reduceLeDiff, cmul_r, cdiv_r, tSl, tPart, tNoPart, rEq, rNe, scal_nn, scal_ii, scal_bb, scal_ss, scal_is, scal_si, V.ty.injEq, and_assoc, tyH_non, tyH_bl, tyH_int, tyH_str, tyH_ref, tyO_lst, tyO_IL, tyO_tup, itO_lst, itO_tup, itO_IL, Dw.rIxD, rLenI, rLenH, rLenTH, rLenQ, rLenB, rListI, Dw.rListS, rIntI, rIntB, rSumI, rIsiD, rIsX, tCallS, tMakeS, tMake, tMakeC, tMakeSC, tFld, sFld, HO.ins.injEq, HO.tup.injEq, cxOf_K, nox_K, tr_K, suite_K, rTupleI, rAllB, rAnyB, BL_inj, tChain, wOnly, wAs, wMany, rEqI, rNeI, Dw.rMax2, rMin2, Dw.rIsN, rIsNotN, rStrIn, rStrNotIn, not_true_eq_false, not_false_eq_true, reduceCtorEq, cl_bool, cl_int, cl_str, cl_list, cl_tuple, isB_NoneType_bool, isB_NoneType_int, isB_NoneType_str, isB_NoneType_list, isB_NoneType_tuple, isB_bool_bool, isB_bool_int, isB_bool_str, isB_bool_list, isB_bool_tuple, isB_int_bool, isB_int_int, isB_int_str, isB_int_list, isB_int_tuple, isB_str_bool, isB_str_int, isB_str_str, isB_str_list, isB_str_tuple, isB_list_bool, isB_list_int, isB_list_str, isB_list_list, isB_list_tuple, isB_tuple_bool, isB_tuple_int, isB_tuple_str, isB_tuple_list, isB_tuple_tuple, iEz, tPar, tRevL, Dw.rSetL, Dw.rIxL, rIxE, iSeqA, rListTI]
    rw [List.length_map, List.take_length]
    exact q
end
section
variable {P : Program} {w : World} {K : PySem.W.Frag} {mg : Str → Option Value} {base : Heap} {A : Ad}
def spTwo : Sp := fun vs H Q _ => ∃ v : Int, vs = [.int v] ∧ ∀ D, H D = none → Q (.ref D) (upd H D (IL [v / 256, v % 256]))
theorem ok_two_bytes (T : Tx K mg A) : FnOk P w K mg base CX0 1 A.f_two_bytes A.d_two_bytes ["number"] spTwo := by
  refine T.F_two_bytes.ok sc_two_bytes (fun vs H Q E h => ?_) (fun cdv A' outer s H vs Q E hr h => ?_)
  · obtain ⟨v, rfl, _⟩ := h
    rfl
  obtain ⟨v, rfl, k⟩ := h
  refine ⟨_, (pss_one (ps_ret (pe_lstI (pa_cons (pe_op op_fdiv (pv 0) pe_int) (pa_cons (pe_op op_mod (pv 0) pe_int) pa_nil))))), ?_⟩
  try simp only [tSeq, tAsg, tVar, tC, tOp, rI0, rI, tUn, rU, tIfS, tTest, tRet, tRetN, tDrop, tCB, tCons, tNil, tLst, tLstI, tTup, gName, tB, tAnd, tOr, tNot, tAndV, tOrV, tNotV, tIf, tNext, tBreak, tCont, gSub, tCall, tCallN, tAug, ipI, tBML, tBML0, isL_IL, isL_lst, L2.start, List.map_cons, List.map_nil, List.length_cons, List.length_nil, List.cons_append, List.nil_append, List.getElem?_cons_succ, List.getElem?_cons_zero, Option.some.injEq, exists_eq_left', exists_eq_left, exists_and_left, V.int.injEq, V.ref.injEq, V.bl.injEq, V.str.injEq, List.set_cons_zero, List.set_cons_succ, List.cons.injEq, and_true, true_and, Nat.reduceAdd, Nat.reduceSub, List.replicate_succ, List.replicate_zero, rIxI, rIxH, rIxTH, rSetI, rSetH, rCatI, rRepI, rSlI, rAppendI, rExtendI, decide_eq_true_eq, upd_same, IL_inj, HO.lst.injEq, toInts_cons, toInts_nil, Option.map_some, if_true, if_false, Bool.true_eq_false, Bool.false_eq_true, Bool.not_true, Bool.not_false, Bool.not_eq_true', decide_eq_false_iff_not, atI_0, atI_1, atI_2, atI_3, atI_4, Int.reduceToNat, Int.reduceLT, Int.reduceLE, Int.reduceNeg, Int.reducePow, cast_lit, upd_upd, Int.reduceAdd, Int.reduceMul, Int.reduceSub, Nat.reduceLT, Nat.reduceLeDiff, cmul_r, cdiv_r, tSl, tPart, tNoPart, rEq, rNe, scal_nn, scal_ii, scal_bb, scal_ss, scal_is, scal_si, V.ty.injEq, and_assoc, tyH_non, tyH_bl, tyH_int, tyH_str, tyH_ref, tyO_lst, tyO_IL, tyO_tup, itO_lst, itO_tup, itO_IL, Dw.rIxD, rLenI, rLenH, rLenTH, rLenQ, rLenB, rListI, Dw.rListS, rIntI, rIntB, rSumI, rIsiD, rIsX, tCallS, tMakeS, tMake, tMakeC, tMakeSC, tFld, sFld, HO.ins.injEq, HO.tup.injEq, cxOf_K, nox_K, tr_K, suite_K, rTupleI, rAllB, rAnyB, BL_inj, tChain, wOnly, wAs, wMany, rEqI, rNeI, Dw.rMax2, rMin2, Dw.rIsN, rIsNotN, rStrIn, rStrNotIn, not_true_eq_false, not_false_eq_true, reduceCtorEq, cl_bool, cl_int, cl_str, cl_list, cl_tuple, isB_NoneType_bool, isB_NoneType_int, isB_NoneType_str, isB_NoneType_list, isB_NoneType_tuple, isB_bool_bool, isB_bool_int, isB_bool_str, isB_bool_list, isB_bool_tuple, isB_int_bool, isB_int_int, isB_int_str, isB_int_list, isB_int_tuple, isB_str_bool, isB_str_int, isB_str_str, isB_str_list, isB_str_tuple, isB_list_bool, isB_list_int, isB_list_str, isB_list_list, isB_list_tuple, isB_tuple_bool, isB_tuple_int, isB_tuple_str, isB_tuple_list, isB_tuple_tuple, iEz, tPar, tRevL, Dw.rSetL, Dw.rIxL, rIxE, iSeqA, rListTI]
  exact ⟨line_le (by decide), k⟩
end
section
variable {P : Program} {w : World} {K : PySem.W.Frag} {mg : Str → Option Value} {base : Heap} {A : Ad}
theorem ok_write_number (T : Tx K mg A) : FnOk P w K mg base CX0 1 A.f_write_number A.d_write_number ["number"] spWriteNumber := by
  refine T.F_write_number.ok sc_write_number (fun vs H Q E h => ?_) (fun cdv A' outer s H vs Q E hr h => ?_)
  · obtain ⟨n, rfl, _⟩ := h
    rfl
  obtain ⟨n, rfl, hn, k⟩ := h
  refine ⟨_, (pss_cons (ps_set (i := 1) sc_write_number.nd rfl (Or.inl rfl) (pe_lstI pa_nil))
      (pss_cons (ps_while PassesOwn.never (pt_cmpR op_gt (pv 0) pe_int (nomark _)) (pss_cons (ps_expr (PE.imp (pe_bm PySem.F.plainAttrs_list PySem.F.slot_list_append PySem.F.type_list_append mt_appendI (pv 1) (pa_cons (pe_op op_add pe_int (pe_op op_mod (pv 0) pe_int)) pa_nil)) bml_imp))
      (pss_one (ps_set (i := 0) sc_write_number.nd rfl (Or.inl rfl) (pe_op op_fdiv (pv 0) pe_int)))))
      (pss_cons (ps_expr (PE.imp (pe_bm PySem.F.plainAttrs_list PySem.F.slot_list_append PySem.F.type_list_append mt_appendI (pv 1) (pa_cons (pv 0) pa_nil)) bml_imp))
      (pss_one (ps_ret (pv 1)))))), ?_⟩
  have hlen := digs_len 99 n hn
  try simp only [tSeq, tAsg, tVar, tC, tOp, rI0, rI, tUn, rU, tIfS, tTest, tRet, tRetN, tDrop, tCB, tCons, tNil, tLst, tLstI, tTup, gName, tB, tAnd, tOr, tNot, tAndV, tOrV, tNotV, tIf, tNext, tBreak, tCont, gSub, tCall, tCallN, tAug, ipI, tBML, tBML0, isL_IL, isL_lst, L2.start, List.map_cons, List.map_nil, List.length_cons, List.length_nil, List.cons_append, List.nil_append, List.getElem?_cons_succ, List.getElem?_cons_zero, Option.some.injEq, exists_eq_left', exists_eq_left, exists_and_left, V.int.injEq, V.ref.injEq, V.bl.injEq, V.str.injEq, List.set_cons_zero, List.set_cons_succ, List.cons.injEq, and_true, true_and, Nat.reduceAdd, Nat.reduceSub, List.replicate_succ, List.replicate_zero, rIxI, rIxH, rIxTH, rSetI, rSetH, rCatI, rRepI, rSlI, rAppendI, rExtendI, decide_eq_true_eq, upd_same, IL_inj, HO.lst.injEq, toInts_cons, toInts_nil, Option.map_some, if_true, if_false, Bool.true_eq_false, Bool.false_eq_true, Bool.not_true, Bool.not_false, Bool.not_eq_true', decide_eq_false_iff_not, atI_0, atI_1, atI_2, atI_3, atI_4, Int.reduceToNat, Int.reduceLT, Int.reduceLE, Int.reduceNeg, Int.reducePow, cast_lit, upd_upd, Int.reduceAdd, Int.reduceMul, Int.reduceSub, Nat.reduceLT, Nat.reduceLeDiff, cmul_r, cdiv_r, tSl, tPart, tNoPart, rEq, rNe, scal_nn, scal_ii, scal_bb, scal_ss, scal_is, scal_si, V.ty.injEq, and_assoc, tyH_non, tyH_bl, tyH_int, tyH_str, tyH_ref, tyO_lst, tyO_IL, tyO_tup, itO_lst, itO_tup, itO_IL, Dw.rIxD, rLenI, rLenH, rLenTH, rLenQ, rLenB, rListI, Dw.rListS, rIntI, rIntB, rSumI, rIsiD, rIsX, tCallS, tMakeS, tMake, tMakeC, tMakeSC, tFld, sFld, HO.ins.injEq, HO.tup.injEq, cxOf_K, nox_K, tr_K, suite_K, rTupleI, rAllB, rAnyB, BL_inj, tChain, wOnly, wAs, wMany, rEqI, rNeI, Dw.rMax2, rMin2, Dw.rIsN, rIsNotN, rStrIn, rStrNotIn, not_true_eq_false, not_false_eq_true, reduceCtorEq, cl_bool, cl_int, cl_str, cl_list, cl_tuple, isB_NoneType_bool, isB_NoneType_int, isB_NoneType_str, isB_NoneType_list, isB_NoneType_tuple, isB_bool_bool, isB_bool_int, isB_bool_str, isB_bool_list, isB_bool_tuple, isB_int_bool, isB_int_int, isB_int_str, isB_int_list, isB_int_tuple, isB_str_bool, isB_str_int, isB_str_str, isB_str_list, isB_str_tuple, isB_list_bool, isB_list_int, isB_list_str, isB_list_list, isB_list_tuple, isB_tuple_bool, isB_tuple_int, isB_tuple_str, isB_tuple_list, isB_tuple_tuple, rSlCI, iRng3, iRev, gCons, gNil, iZip, iEnum, tLc_eq, tFor_eq, iRng1, iRng2, iList, iTup, rSetD, iKeys, tDNewK, Int.reducePow, Int.reduceNeg, iEz, tPar, tRevL, Dw.rSetL, Dw.rIxL, rIxE, iSeqA, rListTI]
  refine ⟨Nat.zero_le _, fun D hD => ?_⟩
  refine ⟨fun m σ H' => Same H H' ∧ ∃ acc : List Int, H' D = some (IL acc) ∧ acc ++ digs m = digs n ∧ σ = [some (.int (m : Int)), some (.ref D)], ⟨n, same_new hD _, [], upd_same, rfl, rfl⟩, ?_⟩
  rintro m σ H' ⟨s1, acc, e1, hm, rfl⟩
  have hal : acc.length ≤ 100 := by
    have : (acc ++ digs m).length = (digs n).length := by rw [hm]
    rw [List.length_append] at this
    omega
  try simp only [tSeq, tAsg, tVar, tC, tOp, rI0, rI, tUn, rU, tIfS, tTest, tRet, tRetN, tDrop, tCB, tCons, tNil, tLst, tLstI, tTup, gName, tB, tAnd, tOr, tNot, tAndV, tOrV, tNotV, tIf, tNext, tBreak, tCont, gSub, tCall, tCallN, tAug, ipI, tBML, tBML0, isL_IL, isL_lst, L2.start, List.map_cons, List.map_nil, List.length_cons, List.length_nil, List.cons_append, List.nil_append, List.getElem?_cons_succ, List.getElem?_cons_zero, Option.some.injEq, exists_eq_left', exists_eq_left, exists_and_left, V.int.injEq, V.ref.injEq, V.bl.injEq, V.str.injEq, List.set_cons_zero, List.set_cons_succ, List.cons.injEq, and_true, true_and, Nat.reduceAdd, Nat.reduceSub, List.replicate_succ, List.replicate_zero, rIxI, rIxH, rIxTH, rSetI, rSetH, rCatI, rRepI, rSlI, rAppendI, rExtendI, decide_eq_true_eq, upd_same, IL_inj, HO.lst.injEq, toInts_cons, toInts_nil, Option.map_some, if_true, if_false, Bool.true_eq_false, Bool.false_eq_true, Bool.not_true, Bool.not_false, Bool.not_eq_true', decide_eq_false_iff_not, atI_0, atI_1, atI_2, atI_3, atI_4, Int.reduceToNat, Int.reduceLT, Int.reduceLE, Int.reduceNeg, Int.reducePow, cast_lit, upd_upd, Int.reduceAdd, Int.reduceMul, Int.reduceSub, Nat.reduceLT, Nat.reduceLeDiff, cmul_r, cdiv_r, tSl, tPart, tNoPart, rEq, rNe, scal_nn, scal_ii, scal_bb, scal_ss, scal_is, scal_si, V.ty.injEq, and_assoc, tyH_non, tyH_bl, tyH_int, tyH_str, tyH_ref, tyO_lst, tyO_IL, tyO_tup, itO_lst, itO_tup, itO_IL, Dw.rIxD, rLenI, rLenH, rLenTH, rLenQ, rLenB, rListI, Dw.rListS, rIntI, rIntB, rSumI, rIsiD, rIsX, tCallS, tMakeS, tMake, tMakeC, tMakeSC, tFld, sFld, HO.ins.injEq, HO.tup.injEq, cxOf_K, nox_K, tr_K, suite_K, rTupleI, rAllB, rAnyB, BL_inj, tChain, wOnly, wAs, wMany, rEqI, rNeI, Dw.rMax2, rMin2, Dw.rIsN, rIsNotN, rStrIn, rStrNotIn, not_true_eq_false, not_false_eq_true, reduceCtorEq, cl_bool, cl_int, cl_str, cl_list, cl_tuple, isB_NoneType_bool, isB_NoneType_int, isB_NoneType_str, isB_NoneType_list, isB_NoneType_tuple, isB_bool_bool, isB_bool_int, isB_bool_str, isB_bool_list, isB_bool_tuple, isB_int_bool, isB_int_int, isB_int_str, isB_int_list, isB_int_tuple, isB_str_bool, isB_str_int, isB_str_str, isB_str_list, isB_str_tuple, isB_list_bool, isB_list_int, isB_list_str, isB_list_list, isB_list_tuple, isB_tuple_bool, isB_tuple_int, isB_tuple_str, isB_tuple_list, isB_tuple_tuple, rSlCI, iRng3, iRev, gCons, gNil, iZip, iEnum, tLc_eq, tFor_eq, iRng1, iRng2, iList, iTup, rSetD, iKeys, tDNewK, Int.reducePow, Int.reduceNeg, iEz, tPar, tRevL, Dw.rSetL, Dw.rIxL, rIxE, iSeqA, rListTI, e1]
  by_cases c : (127 : Int) < (m : Int)
  · rw [if_pos c]
    have d1 : (m : Int) % 128 = ((m % 128 : Nat) : Int) := by omega
    have d2 : (m : Int) / 128 = ((m / 128 : Nat) : Int) := by omega
    refine ⟨_, fun σ' H' h => h, line_lt (by omega), m / 128, by omega, fun b o hb => ?_, acc ++ [128 + (m : Int) % 128], upd_same, ?_, by rw [d2]⟩
    · rw [upd_ne (ne_of_none hb hD)]
      exact s1 _ _ hb
    · rw [d1, List.append_assoc, ← hm, digs_big (n := m) (by omega)]
      rfl
  · rw [if_neg c]
    refine ⟨line_lt (by omega), k D _ (fun b o hb => ?_) hD ?_⟩
    · rw [upd_ne (ne_of_none hb hD)]
      exact s1 _ _ hb
    · rw [upd_same, ← hm, digs_small (n := m) (by omega)]
theorem ok_read_number (T : Tx K mg A) : FnOk P w K mg base (L2.CX P w) 1 A.f_read_number A.d_read_number ["values", "at"] (spReadNumber A.c_BadBytes) := by
  refine T.F_read_number.okX sc_read_number (fun vs H Q E h => ?_) (fun cdv A' outer s H vs Q E hr h => ?_)
  · obtain ⟨a, ns, i, rfl, _⟩ := h
    rfl
  obtain ⟨a, ns, i, rfl, hA, hlen, k1, k2⟩ := h
  refine ⟨_, (pss_cons (ps_if (pt_cmpR op_lt (pv 1) pe_int (nomark _)) (pss_one (ps_raise rfl (takes_of rfl rfl rfl rfl) (pmk_own PySem.F.excBase_ValueError T.x_BadBytes.x T.x_BadBytes.g T.x_BadBytes.k (raises_own T.x_BadBytes.b T.x_BadBytes.t) rfl))) pss_nil)
      (pss_cons (ps_set (i := 2) sc_read_number.nd rfl (Or.inl rfl) (pv 1))
      (pss_cons (ps_while (passes_of rfl) (PW.pt (pw_and (pt_cmpR op_lt (pv 2) (pe_callB call_lenI (by rfl) T.z_len (by decide +kernel) (pa_cons (pv 0) pa_nil)) (nomark _)) (pw_and1 (pt_cmpR op_gt (pe_ix ix_listI (pv 0) (pv 2) (fun _ _ => rfl)) pe_int (nomark _))))) (pss_one (ps_aug (i := 2) sc_read_number.nd rfl (Or.inl rfl) pe_int ip_add)))
      (pss_cons (ps_if (pt_cmpR op_ge (pv 2) (pe_callB call_lenI (by rfl) T.z_len (by decide +kernel) (pa_cons (pv 0) pa_nil)) (nomark _)) (pss_one (ps_raise rfl (takes_of rfl rfl rfl rfl) (pmk_own PySem.F.excBase_ValueError T.x_BadBytes.x T.x_BadBytes.g T.x_BadBytes.k (raises_own T.x_BadBytes.b T.x_BadBytes.t) rfl))) pss_nil)
      (C8.pss_cut (ps_if (PW.pt (pw_and (pt_cmpR op_gt (pv 2) (pv 1) (nomark _)) (pw_and1 (pt_cmpR op_eq (pe_ix ix_listI (pv 0) (pv 2) (fun _ _ => rfl)) pe_int (nomark _))))) (pss_one (ps_raise rfl (takes_of rfl rfl rfl rfl) (pmk_own PySem.F.excBase_ValueError T.x_BadBytes.x T.x_BadBytes.g T.x_BadBytes.k (raises_own T.x_BadBytes.b T.x_BadBytes.t) rfl))) pss_nil)
      (pss_cons (ps_set (i := 3) sc_read_number.nd rfl (Or.inl rfl) pe_int)
      (pss_cons (ps_for (passes_of rfl) rfl (pi_reversed (by rfl) T.z_reversed (pa_cons (pe_slice sl_listI (pv 0) (po_some (pv 1)) (po_some (pe_op op_add (pv 2) pe_int))) pa_nil)) (pg_name (i := 4) sc_read_number.nd rfl (Or.inl rfl))
        (pss_one (ps_set (i := 3) sc_read_number.nd rfl (Or.inl rfl) (pe_op op_add (pe_op op_mul (pv 3) pe_int) (pe_op op_mod (pv 4) pe_int)))))
      (pss_one (ps_ret (pe_tup (pa_cons (pv 3) (pa_cons (pe_op op_add (pv 2) pe_int) pa_nil)))))))))))), ?_⟩
  try simp only [tSeq, tAsg, tVar, tC, tOp, rI0, rI, tUn, rU, tIfS, tTest, tRet, tRetN, tDrop, tCB, tCons, tNil, tLst, tLstI, tTup, gName, tB, tAnd, tOr, tNot, tAndV, tOrV, tNotV, tIf, tNext, tBreak, tCont, gSub, tCall, tCallN, tAug, ipI, tBML, tBML0, isL_IL, isL_lst, L2.start, List.map_cons, List.map_nil, List.length_cons, List.length_nil, List.cons_append, List.nil_append, List.getElem?_cons_succ, List.getElem?_cons_zero, Option.some.injEq, exists_eq_left', exists_eq_left, exists_and_left, V.int.injEq, V.ref.injEq, V.bl.injEq, V.str.injEq, List.set_cons_zero, List.set_cons_succ, List.cons.injEq, and_true, true_and, Nat.reduceAdd, Nat.reduceSub, List.replicate_succ, List.replicate_zero, rIxI, rIxH, rIxTH, rSetI, rSetH, rCatI, rRepI, rSlI, rAppendI, rExtendI, decide_eq_true_eq, upd_same, IL_inj, HO.lst.injEq, toInts_cons, toInts_nil, Option.map_some, if_true, if_false, Bool.true_eq_false, Bool.false_eq_true, Bool.not_true, Bool.not_false, Bool.not_eq_true', decide_eq_false_iff_not, atI_0, atI_1, atI_2, atI_3, atI_4, Int.reduceToNat, Int.reduceLT, Int.reduceLE, Int.reduceNeg, Int.reducePow, cast_lit, upd_upd, Int.reduceAdd, Int.reduceMul, Int.reduceSub, Nat.reduceLT, Nat.reduceLeDiff, cmul_r, cdiv_r, tSl, tPart, tNoPart, rEq, rNe, scal_nn, scal_ii, scal_bb, scal_ss, scal_is, scal_si, V.ty.injEq, and_assoc, tyH_non, tyH_bl, tyH_int, tyH_str, tyH_ref, tyO_lst, tyO_IL, tyO_tup, itO_lst, itO_tup, itO_IL, Dw.rIxD, rLenI, rLenH, rLenTH, rLenQ, rLenB, rListI, Dw.rListS, rIntI, rIntB, rSumI, rIsiD, rIsX, tCallS, tMakeS, tMake, tMakeC, tMakeSC, tFld, sFld, HO.ins.injEq, HO.tup.injEq, cxOf_K, nox_K, tr_K, suite_K, rTupleI, rAllB, rAnyB, BL_inj, tChain, wOnly, wAs, wMany, rEqI, rNeI, Dw.rMax2, rMin2, Dw.rIsN, rIsNotN, rStrIn, rStrNotIn, not_true_eq_false, not_false_eq_true, reduceCtorEq, cl_bool, cl_int, cl_str, cl_list, cl_tuple, isB_NoneType_bool, isB_NoneType_int, isB_NoneType_str, isB_NoneType_list, isB_NoneType_tuple, isB_bool_bool, isB_bool_int, isB_bool_str, isB_bool_list, isB_bool_tuple, isB_int_bool, isB_int_int, isB_int_str, isB_int_list, isB_int_tuple, isB_str_bool, isB_str_int, isB_str_str, isB_str_list, isB_str_tuple, isB_list_bool, isB_list_int, isB_list_str, isB_list_list, isB_list_tuple, isB_tuple_bool, isB_tuple_int, isB_tuple_str, isB_tuple_list, isB_tuple_tuple, rSlCI, iRng3, iRev, gCons, gNil, iZip, iEnum, tLc_eq, tFor_eq, iRng1, iRng2, iList, iTup, rSetD, iKeys, tDNewK, Int.reducePow, Int.reduceNeg, iEz, tPar, tRevL, Dw.rSetL, Dw.rIxL, rIxE, iSeqA, rListTI]
  rw [if_neg (by omega)]
  have hge : ∀ j, (ns.drop i)[j]? = ns[i + j]? := fun j => by rw [List.getElem?_drop]
  have hll := lead_le (ns.drop i)
  rw [List.length_drop] at hll
  refine ⟨fun m σ H' => H' = H ∧ ∃ j : Nat, j + m = lead (ns.drop i) ∧ σ = [some (.ref a), some (.int (i : Int)), some (.int ((i + j : Nat) : Int)), none, none], ⟨lead (ns.drop i), rfl, 0, by omega, rfl⟩, ?_⟩
  rintro m σ H' ⟨rfl, j, hj, rfl⟩
  try simp only [tSeq, tAsg, tVar, tC, tOp, rI0, rI, tUn, rU, tIfS, tTest, tRet, tRetN, tDrop, tCB, tCons, tNil, tLst, tLstI, tTup, gName, tB, tAnd, tOr, tNot, tAndV, tOrV, tNotV, tIf, tNext, tBreak, tCont, gSub, tCall, tCallN, tAug, ipI, tBML, tBML0, isL_IL, isL_lst, L2.start, List.map_cons, List.map_nil, List.length_cons, List.length_nil, List.cons_append, List.nil_append, List.getElem?_cons_succ, List.getElem?_cons_zero, Option.some.injEq, exists_eq_left', exists_eq_left, exists_and_left, V.int.injEq, V.ref.injEq, V.bl.injEq, V.str.injEq, List.set_cons_zero, List.set_cons_succ, List.cons.injEq, and_true, true_and, Nat.reduceAdd, Nat.reduceSub, List.replicate_succ, List.replicate_zero, rIxI, rIxH, rIxTH, rSetI, rSetH, rCatI, rRepI, rSlI, rAppendI, rExtendI, decide_eq_true_eq, upd_same, IL_inj, HO.lst.injEq, toInts_cons, toInts_nil, Option.map_some, if_true, if_false, Bool.true_eq_false, Bool.false_eq_true, Bool.not_true, Bool.not_false, Bool.not_eq_true', decide_eq_false_iff_not, atI_0, atI_1, atI_2, atI_3, atI_4, Int.reduceToNat, Int.reduceLT, Int.reduceLE, Int.reduceNeg, Int.reducePow, cast_lit, upd_upd, Int.reduceAdd, Int.reduceMul, Int.reduceSub, Nat.reduceLT, Nat.reduceLeDiff, cmul_r, cdiv_r, tSl, tPart, tNoPart, rEq, rNe, scal_nn, scal_ii, scal_bb, scal_ss, scal_is, scal_si, V.ty.injEq, and_assoc, tyH_non, tyH_bl, tyH_int, tyH_str, tyH_ref, tyO_lst, tyO_IL, tyO_tup, itO_lst, itO_tup, itO_IL, Dw.rIxD, rLenI, rLenH, rLenTH, rLenQ, rLenB, rListI, Dw.rListS, rIntI, rIntB, rSumI, rIsiD, rIsX, tCallS, tMakeS, tMake, tMakeC, tMakeSC, tFld, sFld, HO.ins.injEq, HO.tup.injEq, cxOf_K, nox_K, tr_K, suite_K, rTupleI, rAllB, rAnyB, BL_inj, tChain, wOnly, wAs, wMany, rEqI, rNeI, Dw.rMax2, rMin2, Dw.rIsN, rIsNotN, rStrIn, rStrNotIn, not_true_eq_false, not_false_eq_true, reduceCtorEq, cl_bool, cl_int, cl_str, cl_list, cl_tuple, isB_NoneType_bool, isB_NoneType_int, isB_NoneType_str, isB_NoneType_list, isB_NoneType_tuple, isB_bool_bool, isB_bool_int, isB_bool_str, isB_bool_list, isB_bool_tuple, isB_int_bool, isB_int_int, isB_int_str, isB_int_list, isB_int_tuple, isB_str_bool, isB_str_int, isB_str_str, isB_str_list, isB_str_tuple, isB_list_bool, isB_list_int, isB_list_str, isB_list_list, isB_list_tuple, isB_tuple_bool, isB_tuple_int, isB_tuple_str, isB_tuple_list, isB_tuple_tuple, rSlCI, iRng3, iRev, gCons, gNil, iZip, iEnum, tLc_eq, tFor_eq, iRng1, iRng2, iList, iTup, rSetD, iKeys, tDNewK, Int.reducePow, Int.reduceNeg, iEz, tPar, tRevL, Dw.rSetL, Dw.rIxL, rIxE, iSeqA, rListTI, hA, Int.toNat_natCast]
  by_cases c1 : ((i + j : Nat) : Int) < (ns.length : Int)
  · have hlt : i + j < ns.length := by omega
    have hx : ns[i + j]? = some (ns.getD (i + j) 0) := by rw [List.getD_eq_getElem?_getD, List.getElem?_eq_getElem hlt]; rfl
    rw [if_pos c1]
    refine ⟨by omega, c1, ?_⟩
    by_cases c2 : 127 < ns.getD (i + j) 0
    · rw [if_pos c2]
      have hjl : j ≠ lead (ns.drop i) := fun e => lead_stop (by rw [← e, hge]; exact hx) c2
      refine ⟨_, fun σ' H' h => h, m - 1, by omega, rfl, j + 1, by omega, ?_⟩
      have : ((i + j : Nat) : Int) + 1 = ((i + (j + 1) : Nat) : Int) := by omega
      rw [this]
    · rw [if_neg c2, if_neg (by omega)]
      have hle : lead (ns.drop i) = j := lead_eq (by omega) (by rw [hge]; exact hx) c2
      have hrd : rdZ ns i = if i + j < ns.length ∧ ¬ (0 < j ∧ ns.getD (i + j) 0 = 0) then some (valD ((ns.drop i).take (j + 1)), i + j + 1) else none := by
        unfold rdZ
        simp only [hle]
      refine ⟨fun σ' H'' => H'' = H' ∧ σ' = [some (.ref a), some (.int (i : Int)), some (.int ((i + j : Nat) : Int)), none, none] ∧ ¬ (0 < j ∧ ns.getD (i + j) 0 = 0), ?_, ?_⟩
      · try simp only [tSeq, tAsg, tVar, tC, tOp, rI0, rI, tUn, rU, tIfS, tTest, tRet, tRetN, tDrop, tCB, tCons, tNil, tLst, tLstI, tTup, gName, tB, tAnd, tOr, tNot, tAndV, tOrV, tNotV, tIf, tNext, tBreak, tCont, gSub, tCall, tCallN, tAug, ipI, tBML, tBML0, isL_IL, isL_lst, L2.start, List.map_cons, List.map_nil, List.length_cons, List.length_nil, List.cons_append, List.nil_append, List.getElem?_cons_succ, List.getElem?_cons_zero, Option.some.injEq, exists_eq_left', exists_eq_left, exists_and_left, V.int.injEq, V.ref.injEq, V.bl.injEq, V.str.injEq, List.set_cons_zero, List.set_cons_succ, List.cons.injEq, and_true, true_and, Nat.reduceAdd, Nat.reduceSub, List.replicate_succ, List.replicate_zero, rIxI, rIxH, rIxTH, rSetI, rSetH, rCatI, rRepI, rSlI, rAppendI, rExtendI, decide_eq_true_eq, upd_same, IL_inj, HO.lst.injEq, toInts_cons, toInts_nil, Option.map_some, if_true, if_false, Bool.true_eq_false, Bool.false_eq_true, Bool.not_true, Bool.not_false, Bool.not_eq_true', decide_eq_false_iff_not, atI_0, atI_1, atI_2, atI_3, atI_4, Int.reduceToNat, Int.reduceLT, Int.reduceLE, Int.reduceNeg, Int.reducePow, cast_lit, upd_upd, Int.reduceAdd, Int.reduceMul, Int.reduceSub, Nat.reduceLT, Nat.reduceLeDiff, cmul_r, cdiv_r, tSl, tPart, tNoPart, rEq, rNe, scal_nn, scal_ii, scal_bb, scal_ss, scal_is, scal_si, V.ty.injEq, and_assoc, tyH_non, tyH_bl, tyH_int, tyH_str, tyH_ref, tyO_lst, tyO_IL, tyO_tup, itO_lst, itO_tup, itO_IL, Dw.rIxD, rLenI, rLenH, rLenTH, rLenQ, rLenB, rListI, Dw.rListS, rIntI, rIntB, rSumI, rIsiD, rIsX, tCallS, tMakeS, tMake, tMakeC, tMakeSC, tFld, sFld, HO.ins.injEq, HO.tup.injEq, cxOf_K, nox_K, tr_K, suite_K, rTupleI, rAllB, rAnyB, BL_inj, tChain, wOnly, wAs, wMany, rEqI, rNeI, Dw.rMax2, rMin2, Dw.rIsN, rIsNotN, rStrIn, rStrNotIn, not_true_eq_false, not_false_eq_true, reduceCtorEq, cl_bool, cl_int, cl_str, cl_list, cl_tuple, isB_NoneType_bool, isB_NoneType_int, isB_NoneType_str, isB_NoneType_list, isB_NoneType_tuple, isB_bool_bool, isB_bool_int, isB_bool_str, isB_bool_list, isB_bool_tuple, isB_int_bool, isB_int_int, isB_int_str, isB_int_list, isB_int_tuple, isB_str_bool, isB_str_int, isB_str_str, isB_str_list, isB_str_tuple, isB_list_bool, isB_list_int, isB_list_str, isB_list_list, isB_list_tuple, isB_tuple_bool, isB_tuple_int, isB_tuple_str, isB_tuple_list, isB_tuple_tuple, rSlCI, iRng3, iRev, gCons, gNil, iZip, iEnum, tLc_eq, tFor_eq, iRng1, iRng2, iList, iTup, rSetD, iKeys, tDNewK, Int.reducePow, Int.reduceNeg, iEz, tPar, tRevL, Dw.rSetL, Dw.rIxL, rIxE, iSeqA, rListTI, hA, Int.toNat_natCast]
        by_cases c3 : (i : Int) < ((i + j : Nat) : Int)
        · rw [if_pos c3]
          refine ⟨by omega, c1, ?_⟩
          by_cases c4 : ns.getD (i + j) 0 = 0
          · rw [if_pos c4]
            refine k2 ?_ _ (Same.refl _)
            rw [hrd, if_neg (fun h => h.2 ⟨by omega, c4⟩)]
          · rw [if_neg c4]
            exact fun h => c4 h.2
        · rw [if_neg c3]
          exact fun h => c3 (by omega)
      · rintro σ' H'' ⟨rfl, rfl, hok⟩
        rw [if_pos ⟨hlt, hok⟩] at hrd
        have e1 : ((i + j : Nat) : Int) + 1 = ((i + j + 1 : Nat) : Int) := by omega
        try simp only [tSeq, tAsg, tVar, tC, tOp, rI0, rI, tUn, rU, tIfS, tTest, tRet, tRetN, tDrop, tCB, tCons, tNil, tLst, tLstI, tTup, gName, tB, tAnd, tOr, tNot, tAndV, tOrV, tNotV, tIf, tNext, tBreak, tCont, gSub, tCall, tCallN, tAug, ipI, tBML, tBML0, isL_IL, isL_lst, L2.start, List.map_cons, List.map_nil, List.length_cons, List.length_nil, List.cons_append, List.nil_append, List.getElem?_cons_succ, List.getElem?_cons_zero, Option.some.injEq, exists_eq_left', exists_eq_left, exists_and_left, V.int.injEq, V.ref.injEq, V.bl.injEq, V.str.injEq, List.set_cons_zero, List.set_cons_succ, List.cons.injEq, and_true, true_and, Nat.reduceAdd, Nat.reduceSub, List.replicate_succ, List.replicate_zero, rIxI, rIxH, rIxTH, rSetI, rSetH, rCatI, rRepI, rSlI, rAppendI, rExtendI, decide_eq_true_eq, upd_same, IL_inj, HO.lst.injEq, toInts_cons, toInts_nil, Option.map_some, if_true, if_false, Bool.true_eq_false, Bool.false_eq_true, Bool.not_true, Bool.not_false, Bool.not_eq_true', decide_eq_false_iff_not, atI_0, atI_1, atI_2, atI_3, atI_4, Int.reduceToNat, Int.reduceLT, Int.reduceLE, Int.reduceNeg, Int.reducePow, cast_lit, upd_upd, Int.reduceAdd, Int.reduceMul, Int.reduceSub, Nat.reduceLT, Nat.reduceLeDiff, cmul_r, cdiv_r, tSl, tPart, tNoPart, rEq, rNe, scal_nn, scal_ii, scal_bb, scal_ss, scal_is, scal_si, V.ty.injEq, and_assoc, tyH_non, tyH_bl, tyH_int, tyH_str, tyH_ref, tyO_lst, tyO_IL, tyO_tup, itO_lst, itO_tup, itO_IL, Dw.rIxD, rLenI, rLenH, rLenTH, rLenQ, rLenB, rListI, Dw.rListS, rIntI, rIntB, rSumI, rIsiD, rIsX, tCallS, tMakeS, tMake, tMakeC, tMakeSC, tFld, sFld, HO.ins.injEq, HO.tup.injEq, cxOf_K, nox_K, tr_K, suite_K, rTupleI, rAllB, rAnyB, BL_inj, tChain, wOnly, wAs, wMany, rEqI, rNeI, Dw.rMax2, rMin2, Dw.rIsN, rIsNotN, rStrIn, rStrNotIn, not_true_eq_false, not_false_eq_true, reduceCtorEq, cl_bool, cl_int, cl_str, cl_list, cl_tuple, isB_NoneType_bool, isB_NoneType_int, isB_NoneType_str, isB_NoneType_list, isB_NoneType_tuple, isB_bool_bool, isB_bool_int, isB_bool_str, isB_bool_list, isB_bool_tuple, isB_int_bool, isB_int_int, isB_int_str, isB_int_list, isB_int_tuple, isB_str_bool, isB_str_int, isB_str_str, isB_str_list, isB_str_tuple, isB_list_bool, isB_list_int, isB_list_str, isB_list_list, isB_list_tuple, isB_tuple_bool, isB_tuple_int, isB_tuple_str, isB_tuple_list, isB_tuple_tuple, rSlCI, iRng3, iRev, gCons, gNil, iZip, iEnum, tLc_eq, tFor_eq, iRng1, iRng2, iList, iTup, rSetD, iKeys, tDNewK, Int.reducePow, Int.reduceNeg, iEz, tPar, tRevL, Dw.rSetL, Dw.rIxL, rIxE, iSeqA, rListTI, hA, e1, cutI_nat (show i ≤ i + j + 1 by omega) (show i + j + 1 ≤ ns.length by omega)]
        intro u hu
        generalize hds : (ns.drop i).take (i + j + 1 - i) = ds
        have hds2 : ds.length ≤ 1000000 := by rw [← hds, List.length_take, List.length_drop]; omega
        refine ⟨ds.map V.int, .of upd_same, ?_⟩
        rw [List.length_map]
        obtain ⟨I, hI⟩ : ∃ F : Nat → L2.St → Hp → Prop, F = (fun t σ H' => H' = upd H'' u (IL ds) ∧ ∃ y, σ = [some (.ref a), some (.int (i : Int)), some (.int ((i + j : Nat) : Int)), some (.int (valD (ds.drop (ds.length - t)))), y]) := ⟨_, rfl⟩
        have wr := walk_rev (K := K) (a := u) (xs := ds.map V.int)
        rw [List.length_map] at wr
        refine for_it wr I (by rw [hI]; exact ⟨rfl, _, by rw [Nat.sub_zero, List.drop_length]; rfl⟩) (fun t σ H' _ h => by rw [hI] at h; rw [h.1]; exact .of upd_same) ?_ ?_
        · intro t x σ H1 H2 ht h hy
          rw [hI] at h
          obtain ⟨rfl, y, rfl⟩ := h
          obtain ⟨rfl, hx⟩ := hy
          obtain ⟨z, rfl, hz⟩ := ints_at hx
          have cm : ∀ x, CMul x 128 := fun x => .inr ⟨by decide, by decide⟩
          try simp only [tSeq, tAsg, tVar, tC, tOp, rI0, rI, tUn, rU, tIfS, tTest, tRet, tRetN, tDrop, tCB, tCons, tNil, tLst, tLstI, tTup, gName, tB, tAnd, tOr, tNot, tAndV, tOrV, tNotV, tIf, tNext, tBreak, tCont, gSub, tCall, tCallN, tAug, ipI, tBML, tBML0, isL_IL, isL_lst, L2.start, List.map_cons, List.map_nil, List.length_cons, List.length_nil, List.cons_append, List.nil_append, List.getElem?_cons_succ, List.getElem?_cons_zero, Option.some.injEq, exists_eq_left', exists_eq_left, exists_and_left, V.int.injEq, V.ref.injEq, V.bl.injEq, V.str.injEq, List.set_cons_zero, List.set_cons_succ, List.cons.injEq, and_true, true_and, Nat.reduceAdd, Nat.reduceSub, List.replicate_succ, List.replicate_zero, rIxI, rIxH, rIxTH, rSetI, rSetH, rCatI, rRepI, rSlI, rAppendI, rExtendI, decide_eq_true_eq, upd_same, IL_inj, HO.lst.injEq, toInts_cons, toInts_nil, Option.map_some, if_true, if_false, Bool.true_eq_false, Bool.false_eq_true, Bool.not_true, Bool.not_false, Bool.not_eq_true', decide_eq_false_iff_not, atI_0, atI_1, atI_2, atI_3, atI_4, Int.reduceToNat, Int.reduceLT, Int.reduceLE, Int.reduceNeg, Int.reducePow, cast_lit, upd_upd, Int.reduceAdd, Int.reduceMul, Int.reduceSub, Nat.reduceLT, Nat.reduceLeDiff, cmul_r, cdiv_r, tSl, tPart, tNoPart, rEq, rNe, scal_nn, scal_ii, scal_bb, scal_ss, scal_is, scal_si, V.ty.injEq, and_assoc, tyH_non, tyH_bl, tyH_int, tyH_str, tyH_ref, tyO_lst, tyO_IL, tyO_tup, itO_lst, itO_tup, itO_IL, Dw.rIxD, rLenI, rLenH, rLenTH, rLenQ, rLenB, rListI, Dw.rListS, rIntI, rIntB, rSumI, rIsiD, rIsX, tCallS, tMakeS, tMake, tMakeC, tMakeSC, tFld, sFld, HO.ins.injEq, HO.tup.injEq, cxOf_K, nox_K, tr_K, suite_K, rTupleI, rAllB, rAnyB, BL_inj, tChain, wOnly, wAs, wMany, rEqI, rNeI, Dw.rMax2, rMin2, Dw.rIsN, rIsNotN, rStrIn, rStrNotIn, not_true_eq_false, not_false_eq_true, reduceCtorEq, cl_bool, cl_int, cl_str, cl_list, cl_tuple, isB_NoneType_bool, isB_NoneType_int, isB_NoneType_str, isB_NoneType_list, isB_NoneType_tuple, isB_bool_bool, isB_bool_int, isB_bool_str, isB_bool_list, isB_bool_tuple, isB_int_bool, isB_int_int, isB_int_str, isB_int_list, isB_int_tuple, isB_str_bool, isB_str_int, isB_str_str, isB_str_list, isB_str_tuple, isB_list_bool, isB_list_int, isB_list_str, isB_list_list, isB_list_tuple, isB_tuple_bool, isB_tuple_int, isB_tuple_str, isB_tuple_list, isB_tuple_tuple, rSlCI, iRng3, iRev, gCons, gNil, iZip, iEnum, tLc_eq, tFor_eq, iRng1, iRng2, iList, iTup, rSetD, iKeys, tDNewK, Int.reducePow, Int.reduceNeg, iEz, tPar, tRevL, Dw.rSetL, Dw.rIxL, rIxE, iSeqA, rListTI, cm]
          rw [hI, ← valD_drop ht hz]
          exact ⟨rfl, _, rfl⟩
        · intro σ H1 h
          rw [hI] at h
          obtain ⟨rfl, y, rfl⟩ := h
          rw [Nat.sub_self, List.drop_zero]
          try simp only [tSeq, tAsg, tVar, tC, tOp, rI0, rI, tUn, rU, tIfS, tTest, tRet, tRetN, tDrop, tCB, tCons, tNil, tLst, tLstI, tTup, gName, tB, tAnd, tOr, tNot, tAndV, tOrV, tNotV, tIf, tNext, tBreak, tCont, gSub, tCall, tCallN, tAug, ipI, tBML, tBML0, isL_IL, isL_lst, L2.start, List.map_cons, List.map_nil, List.length_cons, List.length_nil, List.cons_append, List.nil_append, List.getElem?_cons_succ, List.getElem?_cons_zero, Option.some.injEq, exists_eq_left', exists_eq_left, exists_and_left, V.int.injEq, V.ref.injEq, V.bl.injEq, V.str.injEq, List.set_cons_zero, List.set_cons_succ, List.cons.injEq, and_true, true_and, Nat.reduceAdd, Nat.reduceSub, List.replicate_succ, List.replicate_zero, rIxI, rIxH, rIxTH, rSetI, rSetH, rCatI, rRepI, rSlI, rAppendI, rExtendI, decide_eq_true_eq, upd_same, IL_inj, HO.lst.injEq, toInts_cons, toInts_nil, Option.map_some, if_true, if_false, Bool.true_eq_false, Bool.false_eq_true, Bool.not_true, Bool.not_false, Bool.not_eq_true', decide_eq_false_iff_not, atI_0, atI_1, atI_2, atI_3, atI_4, Int.reduceToNat, Int.reduceLT, Int.reduceLE, Int.reduceNeg, Int.reducePow, cast_lit, upd_upd, Int.reduceAdd, Int.reduceMul, Int.reduceSub, Nat.reduceLT, Nat.reduceLeDiff, cmul_r, cdiv_r, tSl, tPart, tNoPart, rEq, rNe, scal_nn, scal_ii, scal_bb, scal_ss, scal_is, scal_si, V.ty.injEq, and_assoc, tyH_non, tyH_bl, tyH_int, tyH_str, tyH_ref, tyO_lst, tyO_IL, tyO_tup, itO_lst, itO_tup, itO_IL, Dw.rIxD, rLenI, rLenH, rLenTH, rLenQ, rLenB, rListI, Dw.rListS, rIntI, rIntB, rSumI, rIsiD, rIsX, tCallS, tMakeS, tMake, tMakeC, tMakeSC, tFld, sFld, HO.ins.injEq, HO.tup.injEq, cxOf_K, nox_K, tr_K, suite_K, rTupleI, rAllB, rAnyB, BL_inj, tChain, wOnly, wAs, wMany, rEqI, rNeI, Dw.rMax2, rMin2, Dw.rIsN, rIsNotN, rStrIn, rStrNotIn, not_true_eq_false, not_false_eq_true, reduceCtorEq, cl_bool, cl_int, cl_str, cl_list, cl_tuple, isB_NoneType_bool, isB_NoneType_int, isB_NoneType_str, isB_NoneType_list, isB_NoneType_tuple, isB_bool_bool, isB_bool_int, isB_bool_str, isB_bool_list, isB_bool_tuple, isB_int_bool, isB_int_int, isB_int_str, isB_int_list, isB_int_tuple, isB_str_bool, isB_str_int, isB_str_str, isB_str_list, isB_str_tuple, isB_list_bool, isB_list_int, isB_list_str, isB_list_list, isB_list_tuple, isB_tuple_bool, isB_tuple_int, isB_tuple_str, isB_tuple_list, isB_tuple_tuple, rSlCI, iRng3, iRev, gCons, gNil, iZip, iEnum, tLc_eq, tFor_eq, iRng1, iRng2, iList, iTup, rSetD, iKeys, tDNewK, Int.reducePow, Int.reduceNeg, iEz, tPar, tRevL, Dw.rSetL, Dw.rIxL, rIxE, iSeqA, rListTI]
          have hds' : (ns.drop i).take (j + 1) = ds := by
            rw [← hds]
            congr 1
            omega
          rw [hds'] at hrd
          refine ⟨line_le (by decide), fun t ht => k1 _ _ hrd t _ ((same_new hu _).trans (same_new ht _)) (same_none (same_new hu _) ht) ?_⟩
          rw [upd_same, e1]
  · rw [if_neg c1, if_pos (by omega)]
    refine k2 ?_ _ (Same.refl _)
    unfold rdZ
    have hle : lead (ns.drop i) = j := by omega
    simp only [hle]
    rw [if_neg (fun h => c1 (by omega))]
end
section
variable {P : Program} {w : World} {K : PySem.W.Frag} {mg : Str → Option Value} {base : Heap} {A : Ad}
def spPatchInitG (C CE : Addr) : Sp := fun vs H Q E => ∃ (x dx a : Addr) (xs : List V) (cs : List Ch), vs = [.ref x, .ref a] ∧ H x = some (.ins C dx []) ∧ H a = some (.lst xs) ∧ ChsAt H xs cs ∧ cs.length ≤ 500 ∧ (∀ c ∈ cs, Bytes c.2.1 ∧ Bytes c.2.2 ∧ c.2.1.length ≤ 10000 ∧ c.2.2.length ≤ 10000) ∧
  (FitM 0 cs → ∀ H', SameB x H H' → (∃ t ys, H' x = some (.ins C dx [("changes", .ref t)]) ∧ H' t = some (.tup ys) ∧ ChsAt H' ys cs) → Q .non H') ∧ (¬ FitM 0 cs → ∀ H', Same H H' → E (.ref CE) none H')
def spPatchG (C CE : Addr) : Sp := fun vs H Q E => ∃ (a : Addr) (xs : List V) (cs : List Ch), vs = [.ref a] ∧ H a = some (.lst xs) ∧ ChsAt H xs cs ∧ cs.length ≤ 500 ∧ (∀ c ∈ cs, Bytes c.2.1 ∧ Bytes c.2.2 ∧ c.2.1.length ≤ 10000 ∧ c.2.2.length ≤ 10000) ∧
  (FitM 0 cs → ∀ r H', Same H H' → H r = none → PatchAt C H' r cs → Q (.ref r) H') ∧ (¬ FitM 0 cs → ∀ H', Same H H' → E (.ref CE) none H')
theorem conv_patchG {C CE : Addr} : Conv C (spPatchInitG C CE) (spPatchG C CE) := by
  intro vs H Q E ⟨a, xs, cs, e, hA, hC, hl, hF, h1, h2⟩ x dx nx nd ne
  subst e
  have s0 : Same H (upd H dx (.own x)) := same_new nd _
  have nx' : upd H dx (.own x) x = none := by rw [upd_ne ne.symm]; exact nx
  have s1 : Same (upd H dx (.own x)) (upd (upd H dx (.own x)) x (.ins C dx [])) := same_new nx' _
  have s := s0.trans s1
  refine ⟨x, dx, a, xs, cs, rfl, upd_same, s _ _ hA, hC.same s, hl, hF, fun hs H' sb h => ⟨rfl, h1 hs x H' (fun b o hb => sb b o (ne_of_none hb nx) (s b o hb)) nx ?_⟩, fun hs H' s' => h2 hs _ (s.trans s')⟩
  obtain ⟨t, ys, e1, e2, e3⟩ := h
  exact ⟨dx, t, ys, e1, e2, e3⟩
theorem ok_Patchinit (T : Tx K mg A) : FnOk P w K mg base (L2N.CX P w) 2 A.f_Patchinit A.d_Patchinit ["self", "changes"] (spPatchInitG A.c_Patch A.c_InvalidPatch) := by
  refine okN T.F_Patchinit sc_Patchinit (fun vs H Q E h => ?_) (fun cdv A' outer s H vs Q E hr h => ?_)
  · obtain ⟨x, dx, a, xs, cs, rfl, _⟩ := h
    rfl
  obtain ⟨x, dx, a, xs, cs, rfl, hx, hA, hC, hl, hP, k, k2⟩ := h
  refine ⟨_, (pss_cons (ps_if (pt_cmpR op_gt (pe_callB call_lenH (by rfl) T.z_len (by decide +kernel) (pa_cons (pv 1) pa_nil)) (pe_glob rfl T.c_MOST_CHANGES T.r_MOST_CHANGES) (nomark _)) (pss_one (L2N.ps_raise rfl (L2N.takes_of rfl rfl rfl rfl) (L2N.pmk_own PySem.F.excBase_ValueError T.x_InvalidPatch.x T.x_InvalidPatch.g T.x_InvalidPatch.k (raises_own T.x_InvalidPatch.b T.x_InvalidPatch.t) rfl))) pss_nil)
      (pss_cons (ps_set (i := 2) sc_Patchinit.nd rfl (Or.inl rfl) pe_int)
      (pss_cons (ps_for (passes_of rfl) rfl (pi_list (pv 1)) (pg_tup (n := 3) rfl (pgs_cons (pg_name (i := 3) sc_Patchinit.nd rfl (Or.inl rfl)) (pgs_cons (pg_name (i := 4) sc_Patchinit.nd rfl (Or.inl rfl)) (pgs_cons (pg_name (i := 5) sc_Patchinit.nd rfl (Or.inl rfl)) pgs_nil))))
        (pss_cons (ps_if (pt_cmpR op_lt (pv 3) (pv 2) (nomark _)) (pss_one (L2N.ps_raise rfl (L2N.takes_of rfl rfl rfl rfl) (L2N.pmk_own PySem.F.excBase_ValueError T.x_InvalidPatch.x T.x_InvalidPatch.g T.x_InvalidPatch.k (raises_own T.x_InvalidPatch.b T.x_InvalidPatch.t) rfl))) pss_nil)
      (pss_cons (ps_if (PW.pt (pw_or (pt_not (pt_val (pe_call (ok_are_bytes T) (hr.mono (by decide)) rfl T.g_are_bytes T.F_are_bytes.kp T.b_are_bytes .nil pass0 (pa_cons (pv 4) pa_nil)))) (pw_or (pt_not (pt_val (pe_call (ok_are_bytes T) (hr.mono (by decide)) rfl T.g_are_bytes T.F_are_bytes.kp T.b_are_bytes .nil pass0 (pa_cons (pv 5) pa_nil)))) (pw_or1 (pt_cmpR (op_eqD hr.units) (pe_callTy (show CallR _ (.type "tuple") (rTupT K) from call_tupTT) (by rfl) T.z_tuple (by decide +kernel) (pa_cons (pv 4) pa_nil)) (pe_callTy (show CallR _ (.type "tuple") (rTupT K) from call_tupTT) (by rfl) T.z_tuple (by decide +kernel) (pa_cons (pv 5) pa_nil)) (nomark _)))))) (pss_one (L2N.ps_raise rfl (L2N.takes_of rfl rfl rfl rfl) (L2N.pmk_own PySem.F.excBase_ValueError T.x_InvalidPatch.x T.x_InvalidPatch.g T.x_InvalidPatch.k (raises_own T.x_InvalidPatch.b T.x_InvalidPatch.t) rfl))) pss_nil)
      (pss_one (ps_set (i := 2) sc_Patchinit.nd rfl (Or.inl rfl) (pe_op op_add (pe_op op_add (pv 3) (pe_callB call_lenQ (by rfl) T.z_len (by decide +kernel) (pa_cons (pv 4) pa_nil))) pe_int))))))
      (pss_one (ps_fld (pv 0) (pe_callTy call_tuple_of (by rfl) T.z_tuple (by decide +kernel) (pa_cons (pe_lc (own := [("offset", 3), ("old", 4), ("new", 5)]) (g := (gTup K 3 (gCons (gName 3) (gCons (gName 4) (gCons (gName 5) gNil))))) (tt := tYes) rfl sc_Patchinit.nd (pi_list (pv 1)) (blkOk_by (N := n_Patchinit) (sc := (defScope s_Patchinit)) (by decide +kernel)) (fun _ _ _ _ _ => (pg_tup (n := 3) rfl (pgs_cons (pg_name (i := 3) sc_Patchinit.nd rfl (Or.inl rfl)) (pgs_cons (pg_name (i := 4) sc_Patchinit.nd rfl (Or.inl rfl)) (pgs_cons (pg_name (i := 5) sc_Patchinit.nd rfl (Or.inl rfl)) pgs_nil))))) (fun _ _ _ _ _ => pts_nil) (fun _ _ _ _ _ => (pe_tup (pa_cons (pv 3) (pa_cons (pe_callTy (show CallR _ (.type "tuple") (rTupT K) from call_tupTT) (by rfl) T.z_tuple (by decide +kernel) (pa_cons (pv 4) pa_nil)) (pa_cons (pe_callTy (show CallR _ (.type "tuple") (rTupT K) from call_tupTT) (by rfl) T.z_tuple (by decide +kernel) (pa_cons (pv 5) pa_nil)) pa_nil)))))) pa_nil)) rfl))))), ?_⟩
  try simp only [tSeq, tAsg, tVar, tC, tOp, rI0, rI, tUn, rU, tIfS, tTest, tRet, tRetN, tDrop, tCB, tCons, tNil, tLst, tLstI, tTup, gName, tB, tAnd, tOr, tNot, tAndV, tOrV, tNotV, tIf, tNext, tBreak, tCont, gSub, tCall, tCallN, tAug, ipI, tBML, tBML0, isL_IL, isL_lst, L2.start, List.map_cons, List.map_nil, List.length_cons, List.length_nil, List.cons_append, List.nil_append, List.getElem?_cons_succ, List.getElem?_cons_zero, Option.some.injEq, exists_eq_left', exists_eq_left, exists_and_left, V.int.injEq, V.ref.injEq, V.bl.injEq, V.str.injEq, List.set_cons_zero, List.set_cons_succ, List.cons.injEq, and_true, true_and, Nat.reduceAdd, Nat.reduceSub, List.replicate_succ, List.replicate_zero, rIxI, rIxH, rIxTH, rSetI, rSetH, rCatI, rRepI, rSlI, rAppendI, rExtendI, decide_eq_true_eq, upd_same, IL_inj, HO.lst.injEq, toInts_cons, toInts_nil, Option.map_some, if_true, if_false, Bool.true_eq_false, Bool.false_eq_true, Bool.not_true, Bool.not_false, Bool.not_eq_true', decide_eq_false_iff_not, atI_0, atI_1, atI_2, atI_3, atI_4, Int.reduceToNat, Int.reduceLT, Int.reduceLE, Int.reduceNeg, Int.reducePow, cast_lit, upd_upd, Int.reduceAdd, Int.reduceMul, Int.reduceSub, Nat.reduceLT, Nat.reduceLeDiff, cmul_r, cdiv_r, tSl, tPart, tNoPart, rEq, rNe, scal_nn, scal_ii, scal_bb, scal_ss, scal_is, scal_si, V.ty.injEq, and_assoc, tyH_non, tyH_bl, tyH_int, tyH_str, tyH_ref, tyO_lst, tyO_IL, tyO_tup, itO_lst, itO_tup, itO_IL, Dw.rIxD, rLenI, rLenH, rLenTH, rLenQ, rLenB, rListI, Dw.rListS, rIntI, rIntB, rSumI, rIsiD, rIsX, tCallS, tMakeS, tMake, tMakeC, tMakeSC, tFld, sFld, HO.ins.injEq, HO.tup.injEq, cxOf_K, nox_K, tr_K, suite_K, rTupleI, rAllB, rAnyB, BL_inj, tChain, wOnly, wAs, wMany, rEqI, rNeI, Dw.rMax2, rMin2, Dw.rIsN, rIsNotN, rStrIn, rStrNotIn, not_true_eq_false, not_false_eq_true, reduceCtorEq, cl_bool, cl_int, cl_str, cl_list, cl_tuple, isB_NoneType_bool, isB_NoneType_int, isB_NoneType_str, isB_NoneType_list, isB_NoneType_tuple, isB_bool_bool, isB_bool_int, isB_bool_str, isB_bool_list, isB_bool_tuple, isB_int_bool, isB_int_int, isB_int_str, isB_int_list, isB_int_tuple, isB_str_bool, isB_str_int, isB_str_str, isB_str_list, isB_str_tuple, isB_list_bool, isB_list_int, isB_list_str, isB_list_list, isB_list_tuple, isB_tuple_bool, isB_tuple_int, isB_tuple_str, isB_tuple_list, isB_tuple_tuple, rSlCI, iRng3, iRev, gCons, gNil, iZip, iEnum, tLc_eq, tFor_eq, iRng1, iRng2, iList, iTup, rSetD, iKeys, tDNewK, Int.reducePow, Int.reduceNeg, iEz, tPar, tRevL, Dw.rSetL, Dw.rIxL, rIxE, iSeqA, rListTI, hx, hA]
  have hxl : xs.length = cs.length := hC.1
  rw [if_neg (by omega)]
  refine ⟨⟨_, .of hA⟩, ?_⟩
  obtain ⟨I, hI⟩ : ∃ F : Nat → L2.St → Hp → Prop, F = (fun i σ H' => Same H H' ∧ ∃ (l : Int) (y3 y4 y5 : Option V), (FitM 0 cs ↔ FitM l (cs.drop i)) ∧ σ = [some (V.ref x), some (V.ref a), some (V.int l), y3, y4, y5]) := ⟨_, rfl⟩
  refine forL (xs := xs) I (by rw [hI]; exact ⟨.refl _, 0, _, _, _, Iff.rfl, rfl⟩) (fun i σ H' _ h => by rw [hI] at h; exact .of (h.1 _ _ hA)) ?_ ?_
  · intro i v σ H' hi h
    rw [hI] at h
    obtain ⟨s1, l, y3, y4, y5, hf, rfl⟩ := h
    obtain ⟨⟨z, o, n⟩, hc, t, ao, an, rfl, q1, q2, q3⟩ := hC.2 i v hi
    have q1 := s1 _ _ q1
    have q2 := s1 _ _ q2
    have q3 := s1 _ _ q3
    rw [List.drop_eq_getElem_cons (List.getElem?_eq_some_iff.mp hc).1, (List.getElem?_eq_some_iff.mp hc).2] at hf
    obtain ⟨f2, f3, f4, f5⟩ := hP _ (List.mem_of_getElem? hc)
    simp only at f2 f3 f4 f5 q1 q2 q3
    have hf2 : FitM 0 cs ↔ (l ≤ z ∧ o ≠ n ∧ FitM (z + o.length + 1) (cs.drop (i + 1))) := hf.trans ⟨fun h => ⟨h.1, h.2.2.2.2.2.1, h.2.2.2.2.2.2⟩, fun h => ⟨h.1, f2, f3, f4, f5, h.2.1, h.2.2⟩⟩
    have ab : ∀ ns : List Int, Bytes ns → (ns.all fun z => decide (0 ≤ z) && decide (z ≤ 255)) = true := fun ns h => by
      rw [List.all_eq_true]
      intro y hy
      have := h y hy
      rw [decide_eq_true this.1, decide_eq_true (by omega)]
      rfl
    refine ⟨t, _, rfl, .of q1, rfl, ?_⟩
    try simp only [tSeq, tAsg, tVar, tC, tOp, rI0, rI, tUn, rU, tIfS, tTest, tRet, tRetN, tDrop, tCB, tCons, tNil, tLst, tLstI, tTup, gName, tB, tAnd, tOr, tNot, tAndV, tOrV, tNotV, tIf, tNext, tBreak, tCont, gSub, tCall, tCallN, tAug, ipI, tBML, tBML0, isL_IL, isL_lst, L2.start, List.map_cons, List.map_nil, List.length_cons, List.length_nil, List.cons_append, List.nil_append, List.getElem?_cons_succ, List.getElem?_cons_zero, Option.some.injEq, exists_eq_left', exists_eq_left, exists_and_left, V.int.injEq, V.ref.injEq, V.bl.injEq, V.str.injEq, List.set_cons_zero, List.set_cons_succ, List.cons.injEq, and_true, true_and, Nat.reduceAdd, Nat.reduceSub, List.replicate_succ, List.replicate_zero, rIxI, rIxH, rIxTH, rSetI, rSetH, rCatI, rRepI, rSlI, rAppendI, rExtendI, decide_eq_true_eq, upd_same, IL_inj, HO.lst.injEq, toInts_cons, toInts_nil, Option.map_some, if_true, if_false, Bool.true_eq_false, Bool.false_eq_true, Bool.not_true, Bool.not_false, Bool.not_eq_true', decide_eq_false_iff_not, atI_0, atI_1, atI_2, atI_3, atI_4, Int.reduceToNat, Int.reduceLT, Int.reduceLE, Int.reduceNeg, Int.reducePow, cast_lit, upd_upd, Int.reduceAdd, Int.reduceMul, Int.reduceSub, Nat.reduceLT, Nat.reduceLeDiff, cmul_r, cdiv_r, tSl, tPart, tNoPart, rEq, rNe, scal_nn, scal_ii, scal_bb, scal_ss, scal_is, scal_si, V.ty.injEq, and_assoc, tyH_non, tyH_bl, tyH_int, tyH_str, tyH_ref, tyO_lst, tyO_IL, tyO_tup, itO_lst, itO_tup, itO_IL, Dw.rIxD, rLenI, rLenH, rLenTH, rLenQ, rLenB, rListI, Dw.rListS, rIntI, rIntB, rSumI, rIsiD, rIsX, tCallS, tMakeS, tMake, tMakeC, tMakeSC, tFld, sFld, HO.ins.injEq, HO.tup.injEq, cxOf_K, nox_K, tr_K, suite_K, rTupleI, rAllB, rAnyB, BL_inj, tChain, wOnly, wAs, wMany, rEqI, rNeI, Dw.rMax2, rMin2, Dw.rIsN, rIsNotN, rStrIn, rStrNotIn, not_true_eq_false, not_false_eq_true, reduceCtorEq, cl_bool, cl_int, cl_str, cl_list, cl_tuple, isB_NoneType_bool, isB_NoneType_int, isB_NoneType_str, isB_NoneType_list, isB_NoneType_tuple, isB_bool_bool, isB_bool_int, isB_bool_str, isB_bool_list, isB_bool_tuple, isB_int_bool, isB_int_int, isB_int_str, isB_int_list, isB_int_tuple, isB_str_bool, isB_str_int, isB_str_str, isB_str_list, isB_str_tuple, isB_list_bool, isB_list_int, isB_list_str, isB_list_list, isB_list_tuple, isB_tuple_bool, isB_tuple_int, isB_tuple_str, isB_tuple_list, isB_tuple_tuple, rSlCI, iRng3, iRev, gCons, gNil, iZip, iEnum, tLc_eq, tFor_eq, iRng1, iRng2, iList, iTup, rSetD, iKeys, tDNewK, Int.reducePow, Int.reduceNeg, iEz, tPar, tRevL, Dw.rSetL, Dw.rIxL, rIxE, iSeqA, rListTI]
    by_cases c1 : z < l
    · rw [if_pos c1]
      exact k2 (fun h => absurd (hf2.mp h).1 (by omega)) _ s1
    rw [if_neg c1]
    refine ⟨ao, o, rfl, .inr (.of q2), by omega, fun H2 s2 => ⟨_, rfl, ?_⟩⟩
    rw [ab o f2, if_neg (by decide)]
    refine ⟨an, n, rfl, .inr (.of (s2 _ _ q3)), by omega, fun H3 s3 => ⟨_, rfl, ?_⟩⟩
    rw [ab n f3, if_neg (by decide)]
    have q2 := s3 _ _ (s2 _ _ q2)
    have q3 := s3 _ _ (s2 _ _ q3)
    refine ⟨ao, _, rfl, .of q2, an, _, rfl, .of q3, _, _, Dt.dp _ _ (dt_tupI q2), Dt.dp _ _ (dt_tupI q3), shaped_of (.tup .ints), shaped_of (.tup .ints), _, rfl, ?_⟩
    rw [PyData.eqv, eqvAll_ints]
    by_cases c2 : o = n
    · rw [decide_eq_true c2, if_pos rfl]
      exact k2 (fun h => (hf2.mp h).2.1 c2) _ ((s1.trans s2).trans s3)
    rw [decide_eq_false c2, if_neg (by decide)]
    refine ⟨_, by rw [q2]; rfl, ?_⟩
    rw [hI]
    refine ⟨(s1.trans s2).trans s3, _, _, _, _, ?_, rfl⟩
    rw [List.length_map]
    exact hf2.trans ⟨fun h => h.2.2, fun h => ⟨by omega, c2, h⟩⟩
  · intro σ H' h
    rw [hI] at h
    obtain ⟨s1, l, y3, y4, y5, hf, rfl⟩ := h
    have k := k (hf.mpr (by rw [hxl, List.drop_length]; trivial))
    try simp only [tSeq, tAsg, tVar, tC, tOp, rI0, rI, tUn, rU, tIfS, tTest, tRet, tRetN, tDrop, tCB, tCons, tNil, tLst, tLstI, tTup, gName, tB, tAnd, tOr, tNot, tAndV, tOrV, tNotV, tIf, tNext, tBreak, tCont, gSub, tCall, tCallN, tAug, ipI, tBML, tBML0, isL_IL, isL_lst, L2.start, List.map_cons, List.map_nil, List.length_cons, List.length_nil, List.cons_append, List.nil_append, List.getElem?_cons_succ, List.getElem?_cons_zero, Option.some.injEq, exists_eq_left', exists_eq_left, exists_and_left, V.int.injEq, V.ref.injEq, V.bl.injEq, V.str.injEq, List.set_cons_zero, List.set_cons_succ, List.cons.injEq, and_true, true_and, Nat.reduceAdd, Nat.reduceSub, List.replicate_succ, List.replicate_zero, rIxI, rIxH, rIxTH, rSetI, rSetH, rCatI, rRepI, rSlI, rAppendI, rExtendI, decide_eq_true_eq, upd_same, IL_inj, HO.lst.injEq, toInts_cons, toInts_nil, Option.map_some, if_true, if_false, Bool.true_eq_false, Bool.false_eq_true, Bool.not_true, Bool.not_false, Bool.not_eq_true', decide_eq_false_iff_not, atI_0, atI_1, atI_2, atI_3, atI_4, Int.reduceToNat, Int.reduceLT, Int.reduceLE, Int.reduceNeg, Int.reducePow, cast_lit, upd_upd, Int.reduceAdd, Int.reduceMul, Int.reduceSub, Nat.reduceLT, Nat.reduceLeDiff, cmul_r, cdiv_r, tSl, tPart, tNoPart, rEq, rNe, scal_nn, scal_ii, scal_bb, scal_ss, scal_is, scal_si, V.ty.injEq, and_assoc, tyH_non, tyH_bl, tyH_int, tyH_str, tyH_ref, tyO_lst, tyO_IL, tyO_tup, itO_lst, itO_tup, itO_IL, Dw.rIxD, rLenI, rLenH, rLenTH, rLenQ, rLenB, rListI, Dw.rListS, rIntI, rIntB, rSumI, rIsiD, rIsX, tCallS, tMakeS, tMake, tMakeC, tMakeSC, tFld, sFld, HO.ins.injEq, HO.tup.injEq, cxOf_K, nox_K, tr_K, suite_K, rTupleI, rAllB, rAnyB, BL_inj, tChain, wOnly, wAs, wMany, rEqI, rNeI, Dw.rMax2, rMin2, Dw.rIsN, rIsNotN, rStrIn, rStrNotIn, not_true_eq_false, not_false_eq_true, reduceCtorEq, cl_bool, cl_int, cl_str, cl_list, cl_tuple, isB_NoneType_bool, isB_NoneType_int, isB_NoneType_str, isB_NoneType_list, isB_NoneType_tuple, isB_bool_bool, isB_bool_int, isB_bool_str, isB_bool_list, isB_bool_tuple, isB_int_bool, isB_int_int, isB_int_str, isB_int_list, isB_int_tuple, isB_str_bool, isB_str_int, isB_str_str, isB_str_list, isB_str_tuple, isB_list_bool, isB_list_int, isB_list_str, isB_list_list, isB_list_tuple, isB_tuple_bool, isB_tuple_int, isB_tuple_str, isB_tuple_list, isB_tuple_tuple, rSlCI, iRng3, iRev, gCons, gNil, iZip, iEnum, tLc_eq, tFor_eq, iRng1, iRng2, iList, iTup, rSetD, iKeys, tDNewK, Int.reducePow, Int.reduceNeg, iEz, tPar, tRevL, Dw.rSetL, Dw.rIxL, rIxE, iSeqA, rListTI]
    have hA1 := s1 _ _ hA
    have hC1 := hC.same s1
    refine ⟨⟨_, .of hA1⟩, fun D hD => ?_⟩
    refine lc_list (K := K) (a := a) (xs := xs) (fun i H2 => Same H' H2 ∧ ∃ ys, H2 D = some (.lst ys) ∧ ChsAt H2 ys (cs.take i)) ⟨same_new hD _, [], upd_same, .nil⟩ (fun i H2 _ h => .of (h.1 _ _ hA1)) ?_ ?_
    · intro i v H2 hi h
      obtain ⟨s2, ys, e1, hy⟩ := h
      obtain ⟨⟨z, o, n⟩, hc, t, ao, an, rfl, q1, q2, q3⟩ := hC1.2 i v hi
      have q1 := s2 _ _ q1
      have q2 := s2 _ _ q2
      have q3 := s2 _ _ q3
      refine ⟨t, _, rfl, .of q1, rfl, ?_⟩
      try simp only [tSeq, tAsg, tVar, tC, tOp, rI0, rI, tUn, rU, tIfS, tTest, tRet, tRetN, tDrop, tCB, tCons, tNil, tLst, tLstI, tTup, gName, tB, tAnd, tOr, tNot, tAndV, tOrV, tNotV, tIf, tNext, tBreak, tCont, gSub, tCall, tCallN, tAug, ipI, tBML, tBML0, isL_IL, isL_lst, L2.start, List.map_cons, List.map_nil, List.length_cons, List.length_nil, List.cons_append, List.nil_append, List.getElem?_cons_succ, List.getElem?_cons_zero, Option.some.injEq, exists_eq_left', exists_eq_left, exists_and_left, V.int.injEq, V.ref.injEq, V.bl.injEq, V.str.injEq, List.set_cons_zero, List.set_cons_succ, List.cons.injEq, and_true, true_and, Nat.reduceAdd, Nat.reduceSub, List.replicate_succ, List.replicate_zero, rIxI, rIxH, rIxTH, rSetI, rSetH, rCatI, rRepI, rSlI, rAppendI, rExtendI, decide_eq_true_eq, upd_same, IL_inj, HO.lst.injEq, toInts_cons, toInts_nil, Option.map_some, if_true, if_false, Bool.true_eq_false, Bool.false_eq_true, Bool.not_true, Bool.not_false, Bool.not_eq_true', decide_eq_false_iff_not, atI_0, atI_1, atI_2, atI_3, atI_4, Int.reduceToNat, Int.reduceLT, Int.reduceLE, Int.reduceNeg, Int.reducePow, cast_lit, upd_upd, Int.reduceAdd, Int.reduceMul, Int.reduceSub, Nat.reduceLT, Nat.reduceLeDiff, cmul_r, cdiv_r, tSl, tPart, tNoPart, rEq, rNe, scal_nn, scal_ii, scal_bb, scal_ss, scal_is, scal_si, V.ty.injEq, and_assoc, tyH_non, tyH_bl, tyH_int, tyH_str, tyH_ref, tyO_lst, tyO_IL, tyO_tup, itO_lst, itO_tup, itO_IL, Dw.rIxD, rLenI, rLenH, rLenTH, rLenQ, rLenB, rListI, Dw.rListS, rIntI, rIntB, rSumI, rIsiD, rIsX, tCallS, tMakeS, tMake, tMakeC, tMakeSC, tFld, sFld, HO.ins.injEq, HO.tup.injEq, cxOf_K, nox_K, tr_K, suite_K, rTupleI, rAllB, rAnyB, BL_inj, tChain, wOnly, wAs, wMany, rEqI, rNeI, Dw.rMax2, rMin2, Dw.rIsN, rIsNotN, rStrIn, rStrNotIn, not_true_eq_false, not_false_eq_true, reduceCtorEq, cl_bool, cl_int, cl_str, cl_list, cl_tuple, isB_NoneType_bool, isB_NoneType_int, isB_NoneType_str, isB_NoneType_list, isB_NoneType_tuple, isB_bool_bool, isB_bool_int, isB_bool_str, isB_bool_list, isB_bool_tuple, isB_int_bool, isB_int_int, isB_int_str, isB_int_list, isB_int_tuple, isB_str_bool, isB_str_int, isB_str_str, isB_str_list, isB_str_tuple, isB_list_bool, isB_list_int, isB_list_str, isB_list_list, isB_list_tuple, isB_tuple_bool, isB_tuple_int, isB_tuple_str, isB_tuple_list, isB_tuple_tuple, rSlCI, iRng3, iRev, gCons, gNil, iZip, iEnum, tLc_eq, tFor_eq, iRng1, iRng2, iList, iTup, rSetD, iKeys, tDNewK, Int.reducePow, Int.reduceNeg, iEz, tPar, tRevL, Dw.rSetL, Dw.rIxL, rIxE, iSeqA, rListTI, wipe]
      simp only [tYes, if_true]
      refine ⟨ao, _, rfl, .of q2, an, _, rfl, .of q3, line_le (by decide), fun u hu => ?_⟩
      have sU := same_new hu (.tup [.int z, .ref ao, .ref an])
      have e2 := sU _ _ e1
      have hcx : ChAt (upd H2 u (.tup [.int z, .ref ao, .ref an])) (.ref u) (z, o, n) := ⟨u, ao, an, rfl, upd_same, sU _ _ q2, sU _ _ q3⟩
      have hps := (hy.same sU).push hcx
      have hyl := hy.1
      rw [List.length_take] at hyl
      refine ⟨ys, e2, line_lt (by omega), fun b ob hb => ?_, ?_⟩
      · rw [upd_ne (ne_of_none hb hD)]
        exact sU _ _ (s2 _ _ hb)
      · rw [take_more hc]
        exact hps.ups e2 (fun _ e => by cases e)
    · intro H2 h
      obtain ⟨s2, ys, e1, hy⟩ := h
      rw [hxl, List.take_length] at hy
      refine ⟨ys, .inl ⟨.of e1, fun t ht => ?_⟩⟩
      have sT := same_new ht (.tup ys)
      have hx2 := sT _ _ (s2 _ _ (s1 _ _ hx))
      refine ⟨_, _, _, hx2, T.cl_Patch, T.na_Patch_changes, by show 0 < 1000; decide, ?_⟩
      have xt : t ≠ x := fun e => by subst e; rw [s2 _ _ (s1 _ _ hx)] at ht; cases ht
      refine k _ (fun b ob hn hb => ?_) ⟨t, ys, upd_same, by rw [upd_ne xt, upd_same], (hy.same sT).ups hx2 (fun _ e => by cases e)⟩
      rw [upd_ne hn]
      exact sT _ _ (s2 _ _ (s1 _ _ hb))
end
section
variable {P : Program} {w : World} {K : PySem.W.Frag} {mg : Str → Option Value} {base : Heap} {A : Ad}
def spPBytes (C : Addr) : Sp := fun vs H Q _ => ∃ (x : Addr) (cs : List Ch), vs = [.ref x] ∧ PatchAt C H x cs ∧ SmallP cs ∧ FitM 0 cs ∧ ∀ r H', Same H H' → H r = none → H' r = some (IL (bytesP cs)) → Q (.ref r) H'
theorem ok_patch_bytes (T : Tx K mg A) : FnOk P w K mg base CX0 2 A.f_patch_bytes A.d_patch_bytes ["patch"] (spPBytes A.c_Patch) := by
  refine T.F_patch_bytes.ok sc_patch_bytes (fun vs H Q E h => ?_) (fun cdv A' outer s H vs Q E hr h => ?_)
  · obtain ⟨x, cs, rfl, _⟩ := h
    rfl
  obtain ⟨x, cs, rfl, ⟨dx, t, xs, x1, x2, x3⟩, hS, hF, k⟩ := h
  refine ⟨_, (pss_cons (ps_set (i := 1) sc_patch_bytes.nd rfl (Or.inl rfl) (pe_op op_catI (pe_callTy (show CallR _ (.type "list") (rListTI K) from call_listTI) (by rfl) T.z_list (by decide +kernel) (pa_cons (pe_glob (v := .ref A.c_FIRST_BYTES) rfl T.ct_FIRST_BYTES rfl) pa_nil)) (pe_call (ok_write_number T) (hr.mono (by decide)) rfl T.g_write_number T.F_write_number.kp T.b_write_number .nil pass0 (pa_cons (pe_callB call_lenQ (by rfl) T.z_len (by decide +kernel) (pa_cons (pe_fld (pv 0) rfl) pa_nil)) pa_nil))))
      (pss_cons (ps_set (i := 2) sc_patch_bytes.nd rfl (Or.inl rfl) pe_int)
      (pss_cons (ps_for PassesOwn.never rfl (pi_tup (pe_fld (pv 0) rfl)) (pg_tup (n := 3) rfl (pgs_cons (pg_name (i := 3) sc_patch_bytes.nd rfl (Or.inl rfl)) (pgs_cons (pg_name (i := 4) sc_patch_bytes.nd rfl (Or.inl rfl)) (pgs_cons (pg_name (i := 5) sc_patch_bytes.nd rfl (Or.inl rfl)) pgs_nil))))
        (pss_cons (ps_expr (PE.imp (pe_bm PySem.F.plainAttrs_list PySem.F.slot_list_extend PySem.F.type_list_extend mt_extendI (pv 1) (pa_cons (pe_op op_catI (pe_op op_catI (pe_call (ok_write_number T) (hr.mono (by decide)) rfl T.g_write_number T.F_write_number.kp T.b_write_number .nil pass0 (pa_cons (pe_op op_sub (pv 3) (pv 2)) pa_nil)) (pe_call (ok_write_number T) (hr.mono (by decide)) rfl T.g_write_number T.F_write_number.kp T.b_write_number .nil pass0 (pa_cons (pe_callB call_lenQ (by rfl) T.z_len (by decide +kernel) (pa_cons (pv 4) pa_nil)) pa_nil))) (pe_call (ok_write_number T) (hr.mono (by decide)) rfl T.g_write_number T.F_write_number.kp T.b_write_number .nil pass0 (pa_cons (pe_callB call_lenQ (by rfl) T.z_len (by decide +kernel) (pa_cons (pv 5) pa_nil)) pa_nil))) pa_nil)) bml_imp))
      (pss_cons (ps_expr (PE.imp (pe_bm PySem.F.plainAttrs_list PySem.F.slot_list_extend PySem.F.type_list_extend mt_extendI (pv 1) (pa_cons (pe_op op_catI (pe_callTy (show CallR _ (.type "list") (rListTI K) from call_listTI) (by rfl) T.z_list (by decide +kernel) (pa_cons (pv 4) pa_nil)) (pe_callTy (show CallR _ (.type "list") (rListTI K) from call_listTI) (by rfl) T.z_list (by decide +kernel) (pa_cons (pv 5) pa_nil))) pa_nil)) bml_imp))
      (pss_one (ps_set (i := 2) sc_patch_bytes.nd rfl (Or.inl rfl) (pe_op op_add (pv 3) (pe_callB call_lenQ (by rfl) T.z_len (by decide +kernel) (pa_cons (pv 4) pa_nil))))))))
      (pss_one (ps_ret (pe_op op_catI (pv 1) (pe_call (ok_two_bytes T) (hr.mono (by decide)) rfl T.g_two_bytes T.F_two_bytes.kp T.b_two_bytes .nil pass0 (pa_cons (pe_call (ok_crc T) (hr.mono (by decide)) rfl T.g_crc T.F_crc.kp T.b_crc .nil pass0 (pa_cons (pv 1) pa_nil)) pa_nil)))))))), ?_⟩
  have hxl : xs.length = cs.length := x3.1
  obtain ⟨bb, bl, _⟩ := bodyZ_all hS
  try simp only [tSeq, tAsg, tVar, tC, tOp, rI0, rI, tUn, rU, tIfS, tTest, tRet, tRetN, tDrop, tCB, tCons, tNil, tLst, tLstI, tTup, gName, tB, tAnd, tOr, tNot, tAndV, tOrV, tNotV, tIf, tNext, tBreak, tCont, gSub, tCall, tCallN, tAug, ipI, tBML, tBML0, isL_IL, isL_lst, L2.start, List.map_cons, List.map_nil, List.length_cons, List.length_nil, List.cons_append, List.nil_append, List.getElem?_cons_succ, List.getElem?_cons_zero, Option.some.injEq, exists_eq_left', exists_eq_left, exists_and_left, V.int.injEq, V.ref.injEq, V.bl.injEq, V.str.injEq, List.set_cons_zero, List.set_cons_succ, List.cons.injEq, and_true, true_and, Nat.reduceAdd, Nat.reduceSub, List.replicate_succ, List.replicate_zero, rIxI, rIxH, rIxTH, rSetI, rSetH, rCatI, rRepI, rSlI, rAppendI, rExtendI, decide_eq_true_eq, upd_same, IL_inj, HO.lst.injEq, toInts_cons, toInts_nil, Option.map_some, if_true, if_false, Bool.true_eq_false, Bool.false_eq_true, Bool.not_true, Bool.not_false, Bool.not_eq_true', decide_eq_false_iff_not, atI_0, atI_1, atI_2, atI_3, atI_4, Int.reduceToNat, Int.reduceLT, Int.reduceLE, Int.reduceNeg, Int.reducePow, cast_lit, upd_upd, Int.reduceAdd, Int.reduceMul, Int.reduceSub, Nat.reduceLT, Nat.reduceLeDiff, cmul_r, cdiv_r, tSl, tPart, tNoPart, rEq, rNe, scal_nn, scal_ii, scal_bb, scal_ss, scal_is, scal_si, V.ty.injEq, and_assoc, tyH_non, tyH_bl, tyH_int, tyH_str, tyH_ref, tyO_lst, tyO_IL, tyO_tup, itO_lst, itO_tup, itO_IL, Dw.rIxD, rLenI, rLenH, rLenTH, rLenQ, rLenB, rListI, Dw.rListS, rIntI, rIntB, rSumI, rIsiD, rIsX, tCallS, tMakeS, tMake, tMakeC, tMakeSC, tFld, sFld, HO.ins.injEq, HO.tup.injEq, cxOf_K, nox_K, tr_K, suite_K, rTupleI, rAllB, rAnyB, BL_inj, tChain, wOnly, wAs, wMany, rEqI, rNeI, Dw.rMax2, rMin2, Dw.rIsN, rIsNotN, rStrIn, rStrNotIn, not_true_eq_false, not_false_eq_true, reduceCtorEq, cl_bool, cl_int, cl_str, cl_list, cl_tuple, isB_NoneType_bool, isB_NoneType_int, isB_NoneType_str, isB_NoneType_list, isB_NoneType_tuple, isB_bool_bool, isB_bool_int, isB_bool_str, isB_bool_list, isB_bool_tuple, isB_int_bool, isB_int_int, isB_int_str, isB_int_list, isB_int_tuple, isB_str_bool, isB_str_int, isB_str_str, isB_str_list, isB_str_tuple, isB_list_bool, isB_list_int, isB_list_str, isB_list_list, isB_list_tuple, isB_tuple_bool, isB_tuple_int, isB_tuple_str, isB_tuple_list, isB_tuple_tuple, rSlCI, iRng3, iRev, gCons, gNil, iZip, iEnum, tLc_eq, tFor_eq, iRng1, iRng2, iList, iTup, rSetD, iKeys, tDNewK, Int.reducePow, Int.reduceNeg, iEz, tPar, tRevL, Dw.rSetL, Dw.rIxL, rIxE, iSeqA, rListTI, x2]
  refine ⟨[80, 65], T.tt_FIRST_BYTES _, fun u1 nu1 => ?_⟩
  have su1 := same_new nu1 (IL [80, 65])
  have eu1 : upd H u1 (IL [80, 65]) u1 = _ := upd_same
  generalize upd H u1 (IL [80, 65]) = H1 at su1 eu1  ⊢
  refine ⟨_, _, _, su1 _ _ x1, T.cl_Patch, T.na_Patch_changes, _, rfl, t, rfl, _, by rw [su1 _ _ x2]; rfl, ?_⟩
  rw [hxl]
  have pw : (2 : Nat) ^ 14 ≤ 128 ^ 100 := by decide +kernel
  refine ⟨cs.length, rfl, by have := hS.1; omega, fun u2 H2 su2 nu2 eu2 => ⟨u2, rfl, _, su2 _ _ eu1, _, eu2, by have := digs_len 1 cs.length (by show _ < 16384; have := hS.1; omega); exact line_le (by show 2 + _ ≤ _; omega), fun u3 nu3 => ?_⟩⟩
  have su3 := same_new nu3 (IL ([80, 65] ++ digs cs.length))
  have eu3 : upd H2 u3 (IL ([80, 65] ++ digs cs.length)) u3 = _ := upd_same
  generalize upd H2 u3 (IL ([80, 65] ++ digs cs.length)) = H3 at su3 eu3  ⊢
  have s13 := su1.trans (su2.trans su3)
  have n3 : H u3 = none := same_none (su1.trans su2) nu3
  have nP : ∀ {b : Addr} {o : HO}, H b = some o → b ≠ u3 := fun h => ne_of_none h n3
  refine ⟨_, _, _, s13 _ _ x1, T.cl_Patch, T.na_Patch_changes, _, rfl, t, rfl, ⟨_, .of (s13 _ _ x2)⟩, ?_⟩
  obtain ⟨I, hI⟩ : ∃ F : Nat → L2.St → Hp → Prop, F = (fun i σ H' => Same H H' ∧ ∃ (acc : List Int) (e l : Int) (y3 y4 y5 : Option V), H' u3 = some (IL acc) ∧ 0 ≤ e ∧ e ≤ l ∧ FitM l (cs.drop i) ∧ bodyZ cs = acc ++ pbZ e (cs.drop i) ∧ σ = [some (V.ref x), some (V.ref u3), some (V.int e), y3, y4, y5]) := ⟨_, rfl⟩
  refine for_it (walk_tup (K := K) (a := t) (xs := xs)) I (by rw [hI]; exact ⟨s13, _, 0, 0, _, _, _, eu3, Int.le_refl _, Int.le_refl _, hF, rfl, rfl⟩) (fun i σ H' _ h => by rw [hI] at h; exact .of (h.1 _ _ x2)) ?_ ?_
  · intro i v σ H' H4 hi h hy
    rw [hI] at h
    obtain ⟨s4, acc, e, l, y3, y4, y5, ea, e0, hel, hf, hb, rfl⟩ := h
    obtain ⟨rfl, hv⟩ := hy
    obtain ⟨⟨z, o, n⟩, hc, t3, ao, an, rfl, p1, p2, p3⟩ := x3.2 i v hv
    simp only at p1 p2 p3
    have q1 := s4 _ _ p1
    have q2 := s4 _ _ p2
    have q3 := s4 _ _ p3
    obtain ⟨b1, b2, b3, b4, b5, b6⟩ := hS.2 _ (List.mem_of_getElem? hc)
    simp only at b1 b2 b3 b4 b5 b6
    rw [List.drop_eq_getElem_cons (List.getElem?_eq_some_iff.mp hc).1, (List.getElem?_eq_some_iff.mp hc).2] at hf hb
    obtain ⟨f1, f2, f3, f4, f5, f6, f7⟩ := hf
    simp only at f1 f2 f3 f4 f5 f6 f7
    have h9 : (acc ++ digs (z - e).toNat ++ digs o.length ++ digs n.length ++ o ++ n ++ pbZ (z + o.length) (cs.drop (i + 1))).length ≤ 4004 := by
      rw [hb, pbZ_more] at bl
      exact bl
    simp only [List.length_append] at h9
    obtain ⟨k1, hk1⟩ := Int.eq_ofNat_of_zero_le (show 0 ≤ z - e by omega)
    have hk2 : (z - e).toNat = k1 := by omega
    rw [hk2] at h9
    refine ⟨t3, _, rfl, .of q1, rfl, ?_⟩
    try simp only [tSeq, tAsg, tVar, tC, tOp, rI0, rI, tUn, rU, tIfS, tTest, tRet, tRetN, tDrop, tCB, tCons, tNil, tLst, tLstI, tTup, gName, tB, tAnd, tOr, tNot, tAndV, tOrV, tNotV, tIf, tNext, tBreak, tCont, gSub, tCall, tCallN, tAug, ipI, tBML, tBML0, isL_IL, isL_lst, L2.start, List.map_cons, List.map_nil, List.length_cons, List.length_nil, List.cons_append, List.nil_append, List.getElem?_cons_succ, List.getElem?_cons_zero, Option.some.injEq, exists_eq_left', exists_eq_left, exists_and_left, V.int.injEq, V.ref.injEq, V.bl.injEq, V.str.injEq, List.set_cons_zero, List.set_cons_succ, List.cons.injEq, and_true, true_and, Nat.reduceAdd, Nat.reduceSub, List.replicate_succ, List.replicate_zero, rIxI, rIxH, rIxTH, rSetI, rSetH, rCatI, rRepI, rSlI, rAppendI, rExtendI, decide_eq_true_eq, upd_same, IL_inj, HO.lst.injEq, toInts_cons, toInts_nil, Option.map_some, if_true, if_false, Bool.true_eq_false, Bool.false_eq_true, Bool.not_true, Bool.not_false, Bool.not_eq_true', decide_eq_false_iff_not, atI_0, atI_1, atI_2, atI_3, atI_4, Int.reduceToNat, Int.reduceLT, Int.reduceLE, Int.reduceNeg, Int.reducePow, cast_lit, upd_upd, Int.reduceAdd, Int.reduceMul, Int.reduceSub, Nat.reduceLT, Nat.reduceLeDiff, cmul_r, cdiv_r, tSl, tPart, tNoPart, rEq, rNe, scal_nn, scal_ii, scal_bb, scal_ss, scal_is, scal_si, V.ty.injEq, and_assoc, tyH_non, tyH_bl, tyH_int, tyH_str, tyH_ref, tyO_lst, tyO_IL, tyO_tup, itO_lst, itO_tup, itO_IL, Dw.rIxD, rLenI, rLenH, rLenTH, rLenQ, rLenB, rListI, Dw.rListS, rIntI, rIntB, rSumI, rIsiD, rIsX, tCallS, tMakeS, tMake, tMakeC, tMakeSC, tFld, sFld, HO.ins.injEq, HO.tup.injEq, cxOf_K, nox_K, tr_K, suite_K, rTupleI, rAllB, rAnyB, BL_inj, tChain, wOnly, wAs, wMany, rEqI, rNeI, Dw.rMax2, rMin2, Dw.rIsN, rIsNotN, rStrIn, rStrNotIn, not_true_eq_false, not_false_eq_true, reduceCtorEq, cl_bool, cl_int, cl_str, cl_list, cl_tuple, isB_NoneType_bool, isB_NoneType_int, isB_NoneType_str, isB_NoneType_list, isB_NoneType_tuple, isB_bool_bool, isB_bool_int, isB_bool_str, isB_bool_list, isB_bool_tuple, isB_int_bool, isB_int_int, isB_int_str, isB_int_list, isB_int_tuple, isB_str_bool, isB_str_int, isB_str_str, isB_str_list, isB_str_tuple, isB_list_bool, isB_list_int, isB_list_str, isB_list_list, isB_list_tuple, isB_tuple_bool, isB_tuple_int, isB_tuple_str, isB_tuple_list, isB_tuple_tuple, rSlCI, iRng3, iRev, gCons, gNil, iZip, iEnum, tLc_eq, tFor_eq, iRng1, iRng2, iList, iTup, rSetD, iKeys, tDNewK, Int.reducePow, Int.reduceNeg, iEz, tPar, tRevL, Dw.rSetL, Dw.rIxL, rIxE, iSeqA, rListTI]
    rw [hk1]
    refine ⟨by rw [ea]; rfl, k1, rfl, by omega, fun v1 H5 sv1 nv1 ev1 => ⟨_, by rw [sv1 _ _ q2]; rfl, ?_⟩⟩
    refine ⟨o.length, by rw [List.length_map], by omega, fun v2 H6 sv2 nv2 ev2 => ⟨v1, rfl, v2, rfl, _, sv2 _ _ ev1, _, ev2, line_le (by omega), fun v3 nv3 => ?_⟩⟩
    have sv3 := same_new nv3 (IL (digs k1 ++ digs o.length))
    have ev3 : upd H6 v3 (IL (digs k1 ++ digs o.length)) v3 = _ := upd_same
    generalize upd H6 v3 (IL (digs k1 ++ digs o.length)) = H7 at sv3 ev3  ⊢
    have sA := sv1.trans (sv2.trans sv3)
    refine ⟨_, by rw [sA _ _ q3]; rfl, n.length, by rw [List.length_map], by omega, fun v4 H8 sv4 nv4 ev4 => ⟨v4, rfl, _, sv4 _ _ ev3, _, ev4, line_le (by rw [List.length_append]; omega), fun v5 nv5 => ?_⟩⟩
    have sv5 := same_new nv5 (IL (digs k1 ++ digs o.length ++ digs n.length))
    have ev5 : upd H8 v5 (IL (digs k1 ++ digs o.length ++ digs n.length)) v5 = _ := upd_same
    generalize upd H8 v5 (IL (digs k1 ++ digs o.length ++ digs n.length)) = H9 at sv5 ev5  ⊢
    have sB := sA.trans (sv4.trans sv5)
    refine ⟨acc, sB _ _ ea, line_le (by simp only [List.length_append]; omega), ?_⟩
    have sG := Same.put (s4.trans sB) n3 (IL (acc ++ (digs k1 ++ digs o.length ++ digs n.length)))
    have eG : upd H9 u3 (IL (acc ++ (digs k1 ++ digs o.length ++ digs n.length))) u3 = _ := upd_same
    generalize upd H9 u3 (IL (acc ++ (digs k1 ++ digs o.length ++ digs n.length))) = G1 at sG eG ⊢
    refine ⟨o, .of (sG _ _ p2), fun v6 nv6 => ?_⟩
    have sv6 := same_new nv6 (IL o)
    have ev6 : upd G1 v6 (IL o) v6 = _ := upd_same
    generalize upd G1 v6 (IL o) = G2 at sv6 ev6  ⊢
    refine ⟨n, .of (sv6 _ _ (sG _ _ p3)), fun v7 nv7 => ?_⟩
    have sv7 := same_new nv7 (IL n)
    have ev7 : upd G2 v7 (IL n) v7 = _ := upd_same
    generalize upd G2 v7 (IL n) = G3 at sv7 ev7  ⊢
    refine ⟨o, sv7 _ _ ev6, line_le (by omega), fun v8 nv8 => ?_⟩
    have sv8 := same_new nv8 (IL (o ++ n))
    have ev8 : upd G3 v8 (IL (o ++ n)) v8 = _ := upd_same
    generalize upd G3 v8 (IL (o ++ n)) = G4 at sv8 ev8  ⊢
    have eG4 := sv8 _ _ (sv7 _ _ (sv6 _ _ eG))
    refine ⟨_, eG4, line_le (by simp only [List.length_append]; omega), _, by rw [upd_ne (nP p2), sv8 _ _ (sv7 _ _ (sv6 _ _ (sG _ _ p2)))]; rfl, ?_⟩
    rw [hI, List.length_map]
    refine ⟨Same.put (sG.trans (sv6.trans (sv7.trans sv8))) n3 _, _, z + o.length, _, _, _, _, upd_same, by omega, by omega, f7, ?_, rfl⟩
    rw [hb, pbZ_more]
    show acc ++ digs (z - e).toNat ++ digs o.length ++ digs n.length ++ o ++ n ++ pbZ (z + o.length) (cs.drop (i + 1)) = _
    rw [hk2]
    simp only [List.append_assoc]
  · intro σ H' h
    rw [hI] at h
    obtain ⟨s4, acc, e, l, y3, y4, y5, ea, e0, hel, hf, hb, rfl⟩ := h
    rw [hxl, List.drop_length] at hb
    have hb : bodyZ cs = acc := by rw [hb]; exact List.append_nil _
    subst hb
    try simp only [tSeq, tAsg, tVar, tC, tOp, rI0, rI, tUn, rU, tIfS, tTest, tRet, tRetN, tDrop, tCB, tCons, tNil, tLst, tLstI, tTup, gName, tB, tAnd, tOr, tNot, tAndV, tOrV, tNotV, tIf, tNext, tBreak, tCont, gSub, tCall, tCallN, tAug, ipI, tBML, tBML0, isL_IL, isL_lst, L2.start, List.map_cons, List.map_nil, List.length_cons, List.length_nil, List.cons_append, List.nil_append, List.getElem?_cons_succ, List.getElem?_cons_zero, Option.some.injEq, exists_eq_left', exists_eq_left, exists_and_left, V.int.injEq, V.ref.injEq, V.bl.injEq, V.str.injEq, List.set_cons_zero, List.set_cons_succ, List.cons.injEq, and_true, true_and, Nat.reduceAdd, Nat.reduceSub, List.replicate_succ, List.replicate_zero, rIxI, rIxH, rIxTH, rSetI, rSetH, rCatI, rRepI, rSlI, rAppendI, rExtendI, decide_eq_true_eq, upd_same, IL_inj, HO.lst.injEq, toInts_cons, toInts_nil, Option.map_some, if_true, if_false, Bool.true_eq_false, Bool.false_eq_true, Bool.not_true, Bool.not_false, Bool.not_eq_true', decide_eq_false_iff_not, atI_0, atI_1, atI_2, atI_3, atI_4, Int.reduceToNat, Int.reduceLT, Int.reduceLE, Int.reduceNeg, Int.reducePow, cast_lit, upd_upd, Int.reduceAdd, Int.reduceMul, Int.reduceSub, Nat.reduceLT, Nat.reduceLeDiff, cmul_r, cdiv_r, tSl, tPart, tNoPart, rEq, rNe, scal_nn, scal_ii, scal_bb, scal_ss, scal_is, scal_si, V.ty.injEq, and_assoc, tyH_non, tyH_bl, tyH_int, tyH_str, tyH_ref, tyO_lst, tyO_IL, tyO_tup, itO_lst, itO_tup, itO_IL, Dw.rIxD, rLenI, rLenH, rLenTH, rLenQ, rLenB, rListI, Dw.rListS, rIntI, rIntB, rSumI, rIsiD, rIsX, tCallS, tMakeS, tMake, tMakeC, tMakeSC, tFld, sFld, HO.ins.injEq, HO.tup.injEq, cxOf_K, nox_K, tr_K, suite_K, rTupleI, rAllB, rAnyB, BL_inj, tChain, wOnly, wAs, wMany, rEqI, rNeI, Dw.rMax2, rMin2, Dw.rIsN, rIsNotN, rStrIn, rStrNotIn, not_true_eq_false, not_false_eq_true, reduceCtorEq, cl_bool, cl_int, cl_str, cl_list, cl_tuple, isB_NoneType_bool, isB_NoneType_int, isB_NoneType_str, isB_NoneType_list, isB_NoneType_tuple, isB_bool_bool, isB_bool_int, isB_bool_str, isB_bool_list, isB_bool_tuple, isB_int_bool, isB_int_int, isB_int_str, isB_int_list, isB_int_tuple, isB_str_bool, isB_str_int, isB_str_str, isB_str_list, isB_str_tuple, isB_list_bool, isB_list_int, isB_list_str, isB_list_list, isB_list_tuple, isB_tuple_bool, isB_tuple_int, isB_tuple_str, isB_tuple_list, isB_tuple_tuple, rSlCI, iRng3, iRev, gCons, gNil, iZip, iEnum, tLc_eq, tFor_eq, iRng1, iRng2, iList, iTup, rSetD, iKeys, tDNewK, Int.reducePow, Int.reduceNeg, iEz, tPar, tRevL, Dw.rSetL, Dw.rIxL, rIxE, iSeqA, rListTI]
    refine ⟨u3, _, rfl, ea, bb, ?_⟩
    refine ⟨_, rfl, fun v1 nv1 => ⟨v1, rfl, _, same_new nv1 _ _ _ ea, _, upd_same, line_le (by show _ + 2 ≤ _; omega), fun v2 nv2 => ?_⟩⟩
    exact k v2 _ (s4.trans ((same_new nv1 _).trans (same_new nv2 _))) (same_none (s4.trans (same_new nv1 _)) nv2) upd_same
end
section
variable {P : Program} {w : World} {K : PySem.W.Frag} {mg : Str → Option Value} {base : Heap} {A : Ad}
theorem rd_at {W pre R : List Int} {n j : Nat} (h : W = pre ++ digs n ++ R) (ha : j = pre.length) : rdZ W j = some ((n : Int), j + (digs n).length) := by
  subst ha
  rw [h]
  exact rd_digs pre n R
theorem tk_at {W pre o R : List Int} {j : Nat} (h : W = pre ++ o ++ R) (ha : j = pre.length) : (W.drop j).take o.length = o ∧ j + o.length ≤ W.length := by
  subst ha
  rw [h]
  refine ⟨by rw [List.append_assoc, List.drop_left, List.take_left], by simp only [List.length_append]; omega⟩
def spTakenG (CE : Addr) : Sp := fun vs H Q E => ∃ (a : Addr) (ns : List Int) (i c : Nat), vs = [.ref a, .int i, .int c] ∧ H a = some (IL ns) ∧ (i + c ≤ ns.length → ∀ t u H', Same H H' → H t = none → H' t = some (.tup [.ref u, .int ((i + c : Nat) : Int)]) → H' u = some (.tup (((ns.drop i).take c).map V.int)) → Q (.ref t) H') ∧ (¬ i + c ≤ ns.length → E (.ref CE) none H)
theorem ok_taken_bytes (T : Tx K mg A) : FnOk P w K mg base (L2.CX P w) 1 A.f_taken_bytes A.d_taken_bytes ["values", "at", "count"] (spTakenG A.c_BadBytes) := by
  refine T.F_taken_bytes.okX sc_taken_bytes (fun vs H Q E h => ?_) (fun cdv A' outer s H vs Q E hr h => ?_)
  · obtain ⟨a, ns, i, c, rfl, _⟩ := h
    rfl
  obtain ⟨a, ns, i, c, rfl, hA, k, k2⟩ := h
  refine ⟨_, (pss_cons (ps_if (pt_cmpR op_gt (pe_op op_add (pv 1) (pv 2)) (pe_callB call_lenI (by rfl) T.z_len (by decide +kernel) (pa_cons (pv 0) pa_nil)) (nomark _)) (pss_one (ps_raise rfl (takes_of rfl rfl rfl rfl) (pmk_own PySem.F.excBase_ValueError T.x_BadBytes.x T.x_BadBytes.g T.x_BadBytes.k (raises_own T.x_BadBytes.b T.x_BadBytes.t) rfl))) pss_nil)
      (pss_one (ps_ret (pe_tup (pa_cons (pe_callTy call_tupleI (by rfl) T.z_tuple (by decide +kernel) (pa_cons (pe_slice sl_listI (pv 0) (po_some (pv 1)) (po_some (pe_op op_add (pv 1) (pv 2)))) pa_nil)) (pa_cons (pe_op op_add (pv 1) (pv 2)) pa_nil)))))), ?_⟩
  have e1 : ((i : Nat) : Int) + ((c : Nat) : Int) = ((i + c : Nat) : Int) := by omega
  by_cases hl : i + c ≤ ns.length
  · have k := k hl
    try simp only [tSeq, tAsg, tVar, tC, tOp, rI0, rI, tUn, rU, tIfS, tTest, tRet, tRetN, tDrop, tCB, tCons, tNil, tLst, tLstI, tTup, gName, tB, tAnd, tOr, tNot, tAndV, tOrV, tNotV, tIf, tNext, tBreak, tCont, gSub, tCall, tCallN, tAug, ipI, tBML, tBML0, isL_IL, isL_lst, L2.start, List.map_cons, List.map_nil, List.length_cons, List.length_nil, List.cons_append, List.nil_append, List.getElem?_cons_succ, List.getElem?_cons_zero, Option.some.injEq, exists_eq_left', exists_eq_left, exists_and_left, V.int.injEq, V.ref.injEq, V.bl.injEq, V.str.injEq, List.set_cons_zero, List.set_cons_succ, List.cons.injEq, and_true, true_and, Nat.reduceAdd, Nat.reduceSub, List.replicate_succ, List.replicate_zero, rIxI, rIxH, rIxTH, rSetI, rSetH, rCatI, rRepI, rSlI, rAppendI, rExtendI, decide_eq_true_eq, upd_same, IL_inj, HO.lst.injEq, toInts_cons, toInts_nil, Option.map_some, if_true, if_false, Bool.true_eq_false, Bool.false_eq_true, Bool.not_true, Bool.not_false, Bool.not_eq_true', decide_eq_false_iff_not, atI_0, atI_1, atI_2, atI_3, atI_4, Int.reduceToNat, Int.reduceLT, Int.reduceLE, Int.reduceNeg, Int.reducePow, cast_lit, upd_upd, Int.reduceAdd, Int.reduceMul, Int.reduceSub, Nat.reduceLT, Nat.reduceLeDiff, cmul_r, cdiv_r, tSl, tPart, tNoPart, rEq, rNe, scal_nn, scal_ii, scal_bb, scal_ss, scal_is, scal_si, V.ty.injEq, and_assoc, tyH_non, tyH_bl, tyH_int, tyH_str, tyH_ref, tyO_lst, tyO_IL, tyO_tup, itO_lst, itO_tup, itO_IL, Dw.rIxD, rLenI, rLenH, rLenTH, rLenQ, rLenB, rListI, Dw.rListS, rIntI, rIntB, rSumI, rIsiD, rIsX, tCallS, tMakeS, tMake, tMakeC, tMakeSC, tFld, sFld, HO.ins.injEq, HO.tup.injEq, cxOf_K, nox_K, tr_K, suite_K, rTupleI, rAllB, rAnyB, BL_inj, tChain, wOnly, wAs, wMany, rEqI, rNeI, Dw.rMax2, rMin2, Dw.rIsN, rIsNotN, rStrIn, rStrNotIn, not_true_eq_false, not_false_eq_true, reduceCtorEq, cl_bool, cl_int, cl_str, cl_list, cl_tuple, isB_NoneType_bool, isB_NoneType_int, isB_NoneType_str, isB_NoneType_list, isB_NoneType_tuple, isB_bool_bool, isB_bool_int, isB_bool_str, isB_bool_list, isB_bool_tuple, isB_int_bool, isB_int_int, isB_int_str, isB_int_list, isB_int_tuple, isB_str_bool, isB_str_int, isB_str_str, isB_str_list, isB_str_tuple, isB_list_bool, isB_list_int, isB_list_str, isB_list_list, isB_list_tuple, isB_tuple_bool, isB_tuple_int, isB_tuple_str, isB_tuple_list, isB_tuple_tuple, rSlCI, iRng3, iRev, gCons, gNil, iZip, iEnum, tLc_eq, tFor_eq, iRng1, iRng2, iList, iTup, rSetD, iKeys, tDNewK, Int.reducePow, Int.reduceNeg, iEz, tPar, tRevL, Dw.rSetL, Dw.rIxL, rIxE, iSeqA, rListTI, hA, e1, cutI_nat (show i ≤ i + c by omega) hl]
    rw [if_neg (by omega)]
    rw [show i + c - i = c by omega]
    intro u1 nu1
    have su1 := same_new nu1 (IL ((ns.drop i).take c))
    have eu1 : upd H u1 (IL ((ns.drop i).take c)) u1 = _ := upd_same
    generalize upd H u1 (IL ((ns.drop i).take c)) = H1 at su1 eu1  ⊢
    intro u2 nu2
    have su2 := same_new nu2 (HO.tup (((ns.drop i).take c).map V.int))
    have eu2 : upd H1 u2 (HO.tup (((ns.drop i).take c).map V.int)) u2 = _ := upd_same
    generalize upd H1 u2 (HO.tup (((ns.drop i).take c).map V.int)) = H2 at su2 eu2  ⊢
    refine ⟨line_le (by decide), fun u3 nu3 => k u3 u2 _ (su1.trans (su2.trans (same_new nu3 _))) (same_none (su1.trans su2) nu3) upd_same ?_⟩
    exact same_new nu3 _ _ _ eu2
  · have k2 := k2 hl
    try simp only [tSeq, tAsg, tVar, tC, tOp, rI0, rI, tUn, rU, tIfS, tTest, tRet, tRetN, tDrop, tCB, tCons, tNil, tLst, tLstI, tTup, gName, tB, tAnd, tOr, tNot, tAndV, tOrV, tNotV, tIf, tNext, tBreak, tCont, gSub, tCall, tCallN, tAug, ipI, tBML, tBML0, isL_IL, isL_lst, L2.start, List.map_cons, List.map_nil, List.length_cons, List.length_nil, List.cons_append, List.nil_append, List.getElem?_cons_succ, List.getElem?_cons_zero, Option.some.injEq, exists_eq_left', exists_eq_left, exists_and_left, V.int.injEq, V.ref.injEq, V.bl.injEq, V.str.injEq, List.set_cons_zero, List.set_cons_succ, List.cons.injEq, and_true, true_and, Nat.reduceAdd, Nat.reduceSub, List.replicate_succ, List.replicate_zero, rIxI, rIxH, rIxTH, rSetI, rSetH, rCatI, rRepI, rSlI, rAppendI, rExtendI, decide_eq_true_eq, upd_same, IL_inj, HO.lst.injEq, toInts_cons, toInts_nil, Option.map_some, if_true, if_false, Bool.true_eq_false, Bool.false_eq_true, Bool.not_true, Bool.not_false, Bool.not_eq_true', decide_eq_false_iff_not, atI_0, atI_1, atI_2, atI_3, atI_4, Int.reduceToNat, Int.reduceLT, Int.reduceLE, Int.reduceNeg, Int.reducePow, cast_lit, upd_upd, Int.reduceAdd, Int.reduceMul, Int.reduceSub, Nat.reduceLT, Nat.reduceLeDiff, cmul_r, cdiv_r, tSl, tPart, tNoPart, rEq, rNe, scal_nn, scal_ii, scal_bb, scal_ss, scal_is, scal_si, V.ty.injEq, and_assoc, tyH_non, tyH_bl, tyH_int, tyH_str, tyH_ref, tyO_lst, tyO_IL, tyO_tup, itO_lst, itO_tup, itO_IL, Dw.rIxD, rLenI, rLenH, rLenTH, rLenQ, rLenB, rListI, Dw.rListS, rIntI, rIntB, rSumI, rIsiD, rIsX, tCallS, tMakeS, tMake, tMakeC, tMakeSC, tFld, sFld, HO.ins.injEq, HO.tup.injEq, cxOf_K, nox_K, tr_K, suite_K, rTupleI, rAllB, rAnyB, BL_inj, tChain, wOnly, wAs, wMany, rEqI, rNeI, Dw.rMax2, rMin2, Dw.rIsN, rIsNotN, rStrIn, rStrNotIn, not_true_eq_false, not_false_eq_true, reduceCtorEq, cl_bool, cl_int, cl_str, cl_list, cl_tuple, isB_NoneType_bool, isB_NoneType_int, isB_NoneType_str, isB_NoneType_list, isB_NoneType_tuple, isB_bool_bool, isB_bool_int, isB_bool_str, isB_bool_list, isB_bool_tuple, isB_int_bool, isB_int_int, isB_int_str, isB_int_list, isB_int_tuple, isB_str_bool, isB_str_int, isB_str_str, isB_str_list, isB_str_tuple, isB_list_bool, isB_list_int, isB_list_str, isB_list_list, isB_list_tuple, isB_tuple_bool, isB_tuple_int, isB_tuple_str, isB_tuple_list, isB_tuple_tuple, rSlCI, iRng3, iRev, gCons, gNil, iZip, iEnum, tLc_eq, tFor_eq, iRng1, iRng2, iList, iTup, rSetD, iKeys, tDNewK, Int.reducePow, Int.reduceNeg, iEz, tPar, tRevL, Dw.rSetL, Dw.rIxL, rIxE, iSeqA, rListTI, hA, e1]
    rw [if_pos (by omega)]
    exact k2
def spRChG (CE : Addr) : Sp := fun vs H Q E => ∃ (a : Addr) (W : List Int), vs = [.ref a] ∧ H a = some (IL W) ∧ Bytes W ∧ W.length ≤ 4000 ∧ W.take 2 = [80, 65] ∧ ((∃ cs, Chn W cs ∧ ∀ r xs H', Same H H' → H r = none → H' r = some (.lst xs) → ChsAt H' xs cs → Q (.ref r) H') ∨ ((∀ cs, ¬ Chn W cs) ∧ ∀ H', Same H H' → E (.ref CE) none H'))
theorem ok_read_changes (T : Tx K mg A) : FnOk P w K mg base (L2.CX P w) 2 A.f_read_changes A.d_read_changes ["values"] (spRChG A.c_BadBytes) := by
  refine T.F_read_changes.okX sc_read_changes (fun vs H Q E h => ?_) (fun cdv A' outer s H vs Q E hr h => ?_)
  · obtain ⟨a, W, rfl, _⟩ := h
    rfl
  obtain ⟨a, W, rfl, hA, hWb, hWl, hW2, kk⟩ := h
  refine ⟨_, (pss_cons (ps_asg (pe_call (ok_read_number T) (hr.mono (by decide)) rfl T.g_read_number T.F_read_number.kp T.b_read_number .nil (passW (takes_of rfl rfl rfl rfl) (fun _ _ _ _ h => h)) (pa_cons (pv 0) (pa_cons (pe_callB call_len_seq (by rfl) T.z_len (by decide +kernel) (pa_cons (pe_glob (v := .ref A.c_FIRST_BYTES) rfl T.ct_FIRST_BYTES rfl) pa_nil)) pa_nil))) (pg_tup (n := 2) rfl (pgs_cons (pg_name (i := 1) sc_read_changes.nd rfl (Or.inl rfl)) (pgs_cons (pg_name (i := 2) sc_read_changes.nd rfl (Or.inl rfl)) pgs_nil))))
      (pss_cons (ps_if (pt_cmpR op_gt (pv 1) (pe_glob rfl T.c_MOST_CHANGES T.r_MOST_CHANGES) (nomark _)) (pss_one (ps_raise rfl (takes_of rfl rfl rfl rfl) (pmk_own PySem.F.excBase_ValueError T.x_BadBytes.x T.x_BadBytes.g T.x_BadBytes.k (raises_own T.x_BadBytes.b T.x_BadBytes.t) rfl))) pss_nil)
      (pss_cons (ps_set (i := 3) sc_read_changes.nd rfl (Or.inl rfl) (pe_lst pa_nil))
      (pss_cons (ps_set (i := 4) sc_read_changes.nd rfl (Or.inl rfl) pe_int)
      (pss_cons (ps_for (passes_of rfl) rfl (pi_range1 rfl T.z_range (pa_cons (pv 1) pa_nil)) (pg_name (i := 5) sc_read_changes.nd rfl (Or.inl rfl))
        (pss_cons (ps_asg (pe_call (ok_read_number T) (hr.mono (by decide)) rfl T.g_read_number T.F_read_number.kp T.b_read_number .nil (passW (takes_of rfl rfl rfl rfl) (fun _ _ _ _ h => h)) (pa_cons (pv 0) (pa_cons (pv 2) pa_nil))) (pg_tup (n := 2) rfl (pgs_cons (pg_name (i := 6) sc_read_changes.nd rfl (Or.inl rfl)) (pgs_cons (pg_name (i := 2) sc_read_changes.nd rfl (Or.inl rfl)) pgs_nil))))
      (pss_cons (ps_asg (pe_call (ok_read_number T) (hr.mono (by decide)) rfl T.g_read_number T.F_read_number.kp T.b_read_number .nil (passW (takes_of rfl rfl rfl rfl) (fun _ _ _ _ h => h)) (pa_cons (pv 0) (pa_cons (pv 2) pa_nil))) (pg_tup (n := 2) rfl (pgs_cons (pg_name (i := 7) sc_read_changes.nd rfl (Or.inl rfl)) (pgs_cons (pg_name (i := 2) sc_read_changes.nd rfl (Or.inl rfl)) pgs_nil))))
      (pss_cons (ps_asg (pe_call (ok_read_number T) (hr.mono (by decide)) rfl T.g_read_number T.F_read_number.kp T.b_read_number .nil (passW (takes_of rfl rfl rfl rfl) (fun _ _ _ _ h => h)) (pa_cons (pv 0) (pa_cons (pv 2) pa_nil))) (pg_tup (n := 2) rfl (pgs_cons (pg_name (i := 8) sc_read_changes.nd rfl (Or.inl rfl)) (pgs_cons (pg_name (i := 2) sc_read_changes.nd rfl (Or.inl rfl)) pgs_nil))))
      (pss_cons (ps_asg (pe_call (ok_taken_bytes T) (hr.mono (by decide)) rfl T.g_taken_bytes T.F_taken_bytes.kp T.b_taken_bytes .nil (passW (takes_of rfl rfl rfl rfl) (fun _ _ _ _ h => h)) (pa_cons (pv 0) (pa_cons (pv 2) (pa_cons (pv 7) pa_nil)))) (pg_tup (n := 2) rfl (pgs_cons (pg_name (i := 9) sc_read_changes.nd rfl (Or.inl rfl)) (pgs_cons (pg_name (i := 2) sc_read_changes.nd rfl (Or.inl rfl)) pgs_nil))))
      (pss_cons (ps_asg (pe_call (ok_taken_bytes T) (hr.mono (by decide)) rfl T.g_taken_bytes T.F_taken_bytes.kp T.b_taken_bytes .nil (passW (takes_of rfl rfl rfl rfl) (fun _ _ _ _ h => h)) (pa_cons (pv 0) (pa_cons (pv 2) (pa_cons (pv 8) pa_nil)))) (pg_tup (n := 2) rfl (pgs_cons (pg_name (i := 10) sc_read_changes.nd rfl (Or.inl rfl)) (pgs_cons (pg_name (i := 2) sc_read_changes.nd rfl (Or.inl rfl)) pgs_nil))))
      (pss_cons (ps_expr (PE.imp (pe_bm PySem.F.plainAttrs_list PySem.F.slot_list_append PySem.F.type_list_append mt_append (pv 3) (pa_cons (pe_tup (pa_cons (pe_op op_add (pv 4) (pv 6)) (pa_cons (pv 9) (pa_cons (pv 10) pa_nil)))) pa_nil)) bml_imp))
      (pss_one (ps_set (i := 4) sc_read_changes.nd rfl (Or.inl rfl) (pe_op op_add (pe_op op_add (pv 4) (pv 6)) (pv 7)))))))))))
      (pss_cons (ps_if (pt_cmpR op_ne (pv 2) (pe_callB call_lenI (by rfl) T.z_len (by decide +kernel) (pa_cons (pv 0) pa_nil)) (nomark _)) (pss_one (ps_raise rfl (takes_of rfl rfl rfl rfl) (pmk_own PySem.F.excBase_ValueError T.x_BadBytes.x T.x_BadBytes.g T.x_BadBytes.k (raises_own T.x_BadBytes.b T.x_BadBytes.t) rfl))) pss_nil)
      (pss_one (ps_ret (pv 3))))))))), ?_⟩
  try simp only [tSeq, tAsg, tVar, tC, tOp, rI0, rI, tUn, rU, tIfS, tTest, tRet, tRetN, tDrop, tCB, tCons, tNil, tLst, tLstI, tTup, gName, tB, tAnd, tOr, tNot, tAndV, tOrV, tNotV, tIf, tNext, tBreak, tCont, gSub, tCall, tCallN, tAug, ipI, tBML, tBML0, isL_IL, isL_lst, L2.start, List.map_cons, List.map_nil, List.length_cons, List.length_nil, List.cons_append, List.nil_append, List.getElem?_cons_succ, List.getElem?_cons_zero, Option.some.injEq, exists_eq_left', exists_eq_left, exists_and_left, V.int.injEq, V.ref.injEq, V.bl.injEq, V.str.injEq, List.set_cons_zero, List.set_cons_succ, List.cons.injEq, and_true, true_and, Nat.reduceAdd, Nat.reduceSub, List.replicate_succ, List.replicate_zero, rIxI, rIxH, rIxTH, rSetI, rSetH, rCatI, rRepI, rSlI, rAppendI, rExtendI, decide_eq_true_eq, upd_same, IL_inj, HO.lst.injEq, toInts_cons, toInts_nil, Option.map_some, if_true, if_false, Bool.true_eq_false, Bool.false_eq_true, Bool.not_true, Bool.not_false, Bool.not_eq_true', decide_eq_false_iff_not, atI_0, atI_1, atI_2, atI_3, atI_4, Int.reduceToNat, Int.reduceLT, Int.reduceLE, Int.reduceNeg, Int.reducePow, cast_lit, upd_upd, Int.reduceAdd, Int.reduceMul, Int.reduceSub, Nat.reduceLT, Nat.reduceLeDiff, cmul_r, cdiv_r, tSl, tPart, tNoPart, rEq, rNe, scal_nn, scal_ii, scal_bb, scal_ss, scal_is, scal_si, V.ty.injEq, and_assoc, tyH_non, tyH_bl, tyH_int, tyH_str, tyH_ref, tyO_lst, tyO_IL, tyO_tup, itO_lst, itO_tup, itO_IL, Dw.rIxD, rLenI, rLenH, rLenTH, rLenQ, rLenB, rListI, Dw.rListS, rIntI, rIntB, rSumI, rIsiD, rIsX, tCallS, tMakeS, tMake, tMakeC, tMakeSC, tFld, sFld, HO.ins.injEq, HO.tup.injEq, cxOf_K, nox_K, tr_K, suite_K, rTupleI, rAllB, rAnyB, BL_inj, tChain, wOnly, wAs, wMany, rEqI, rNeI, Dw.rMax2, rMin2, Dw.rIsN, rIsNotN, rStrIn, rStrNotIn, not_true_eq_false, not_false_eq_true, reduceCtorEq, cl_bool, cl_int, cl_str, cl_list, cl_tuple, isB_NoneType_bool, isB_NoneType_int, isB_NoneType_str, isB_NoneType_list, isB_NoneType_tuple, isB_bool_bool, isB_bool_int, isB_bool_str, isB_bool_list, isB_bool_tuple, isB_int_bool, isB_int_int, isB_int_str, isB_int_list, isB_int_tuple, isB_str_bool, isB_str_int, isB_str_str, isB_str_list, isB_str_tuple, isB_list_bool, isB_list_int, isB_list_str, isB_list_list, isB_list_tuple, isB_tuple_bool, isB_tuple_int, isB_tuple_str, isB_tuple_list, isB_tuple_tuple, rSlCI, iRng3, iRev, gCons, gNil, iZip, iEnum, tLc_eq, tFor_eq, iRng1, iRng2, iList, iTup, rSetD, iKeys, tDNewK, Int.reducePow, Int.reduceNeg, iEz, tPar, tRevL, Dw.rSetL, Dw.rIxL, rIxE, iSeqA, rListTI]
  refine ⟨_, .inr (T.tt_FIRST_BYTES _), ?_⟩
  rcases kk with ⟨cs, hC, k⟩ | ⟨hno, kn⟩
  · obtain ⟨hW, hCh, hcl⟩ := hC
    subst hW
    have r0 : rdZ (bodyZ cs) 2 = some ((cs.length : Int), 2 + (digs cs.length).length) := rd_at (pre := [80, 65]) (R := pbZ 0 cs) rfl rfl
    refine ⟨a, bodyZ cs, 2, rfl, hA, by omega, fun v j hv t1 H1 s1 n1 e1 => ?_, fun h => by rw [r0] at h; cases h⟩
    rw [r0] at hv
    cases hv
    refine ⟨t1, _, rfl, .of e1, rfl, ?_⟩
    try simp only [tSeq, tAsg, tVar, tC, tOp, rI0, rI, tUn, rU, tIfS, tTest, tRet, tRetN, tDrop, tCB, tCons, tNil, tLst, tLstI, tTup, gName, tB, tAnd, tOr, tNot, tAndV, tOrV, tNotV, tIf, tNext, tBreak, tCont, gSub, tCall, tCallN, tAug, ipI, tBML, tBML0, isL_IL, isL_lst, L2.start, List.map_cons, List.map_nil, List.length_cons, List.length_nil, List.cons_append, List.nil_append, List.getElem?_cons_succ, List.getElem?_cons_zero, Option.some.injEq, exists_eq_left', exists_eq_left, exists_and_left, V.int.injEq, V.ref.injEq, V.bl.injEq, V.str.injEq, List.set_cons_zero, List.set_cons_succ, List.cons.injEq, and_true, true_and, Nat.reduceAdd, Nat.reduceSub, List.replicate_succ, List.replicate_zero, rIxI, rIxH, rIxTH, rSetI, rSetH, rCatI, rRepI, rSlI, rAppendI, rExtendI, decide_eq_true_eq, upd_same, IL_inj, HO.lst.injEq, toInts_cons, toInts_nil, Option.map_some, if_true, if_false, Bool.true_eq_false, Bool.false_eq_true, Bool.not_true, Bool.not_false, Bool.not_eq_true', decide_eq_false_iff_not, atI_0, atI_1, atI_2, atI_3, atI_4, Int.reduceToNat, Int.reduceLT, Int.reduceLE, Int.reduceNeg, Int.reducePow, cast_lit, upd_upd, Int.reduceAdd, Int.reduceMul, Int.reduceSub, Nat.reduceLT, Nat.reduceLeDiff, cmul_r, cdiv_r, tSl, tPart, tNoPart, rEq, rNe, scal_nn, scal_ii, scal_bb, scal_ss, scal_is, scal_si, V.ty.injEq, and_assoc, tyH_non, tyH_bl, tyH_int, tyH_str, tyH_ref, tyO_lst, tyO_IL, tyO_tup, itO_lst, itO_tup, itO_IL, Dw.rIxD, rLenI, rLenH, rLenTH, rLenQ, rLenB, rListI, Dw.rListS, rIntI, rIntB, rSumI, rIsiD, rIsX, tCallS, tMakeS, tMake, tMakeC, tMakeSC, tFld, sFld, HO.ins.injEq, HO.tup.injEq, cxOf_K, nox_K, tr_K, suite_K, rTupleI, rAllB, rAnyB, BL_inj, tChain, wOnly, wAs, wMany, rEqI, rNeI, Dw.rMax2, rMin2, Dw.rIsN, rIsNotN, rStrIn, rStrNotIn, not_true_eq_false, not_false_eq_true, reduceCtorEq, cl_bool, cl_int, cl_str, cl_list, cl_tuple, isB_NoneType_bool, isB_NoneType_int, isB_NoneType_str, isB_NoneType_list, isB_NoneType_tuple, isB_bool_bool, isB_bool_int, isB_bool_str, isB_bool_list, isB_bool_tuple, isB_int_bool, isB_int_int, isB_int_str, isB_int_list, isB_int_tuple, isB_str_bool, isB_str_int, isB_str_str, isB_str_list, isB_str_tuple, isB_list_bool, isB_list_int, isB_list_str, isB_list_list, isB_list_tuple, isB_tuple_bool, isB_tuple_int, isB_tuple_str, isB_tuple_list, isB_tuple_tuple, rSlCI, iRng3, iRev, gCons, gNil, iZip, iEnum, tLc_eq, tFor_eq, iRng1, iRng2, iList, iTup, rSetD, iKeys, tDNewK, Int.reducePow, Int.reduceNeg, iEz, tPar, tRevL, Dw.rSetL, Dw.rIxL, rIxE, iSeqA, rListTI]
    rw [if_neg (by omega)]
    refine ⟨Nat.zero_le _, fun D nD => ?_⟩
    have sD := same_new nD (HO.lst [])
    have eD : upd H1 D (HO.lst []) D = _ := upd_same
    generalize upd H1 D (HO.lst []) = H2 at sD eD  ⊢
    have nH : H D = none := same_none s1 nD
  
    rw [Int.toNat_natCast]
    refine ⟨by omega, by omega, ?_⟩
    obtain ⟨I, hI⟩ : ∃ F : Nat → L2.St → Hp → Prop, F = (fun i σ H' => Same H H' ∧ ∃ (pre : List Int) (e : Int) (ys : List V) (y5 y6 y7 y8 y9 y10 : Option V), H' D = some (.lst ys) ∧ ChsAt H' ys (cs.take i) ∧ 0 ≤ e ∧ Chain e (cs.drop i) ∧ bodyZ cs = pre ++ pbZ e (cs.drop i) ∧ σ = [some (V.ref a), some (V.int (cs.length : Int)), some (V.int (pre.length : Int)), some (V.ref D), some (V.int e), y5, y6, y7, y8, y9, y10]) := ⟨_, rfl⟩
    refine forR I (by rw [hI]; exact ⟨s1.trans sD, hdPZ cs, 0, [], _, _, _, _, _, _, eD, .nil, Int.le_refl _, hCh, rfl, by unfold hdPZ; rw [List.length_append]; rfl⟩) ?_ ?_
    · intro i σ H3 hi h
      rw [hI] at h
      obtain ⟨s3, pre, e, ys, y5, y6, y7, y8, y9, y10, eY, hC, e0, hf, hb, rfl⟩ := h
      obtain ⟨⟨z, o, n⟩, hc⟩ : ∃ c, cs[i]? = some c := ⟨_, List.getElem?_eq_getElem hi⟩
      rw [List.drop_eq_getElem_cons (List.getElem?_eq_some_iff.mp hc).1, (List.getElem?_eq_some_iff.mp hc).2] at hf hb
      obtain ⟨f1, f2, f3, f7⟩ := hf
      simp only at f1 f2 f3 f7
      obtain ⟨k1, hk1⟩ := Int.eq_ofNat_of_zero_le (show 0 ≤ z - e by omega)
      have hk2 : (z - e).toNat = k1 := by omega
      have hbm := hb
      rw [pbZ_more] at hbm
      replace hbm : bodyZ cs = pre ++ digs k1 ++ digs o.length ++ digs n.length ++ o ++ n ++ pbZ (z + o.length) (cs.drop (i + 1)) := by rw [← hk2]; exact hbm
      have w1 : bodyZ cs = pre ++ digs k1 ++ (digs o.length ++ digs n.length ++ o ++ n ++ pbZ (z + o.length) (cs.drop (i + 1))) := by rw [hbm]; simp only [List.append_assoc]
      have w2 : bodyZ cs = (pre ++ digs k1) ++ digs o.length ++ (digs n.length ++ o ++ n ++ pbZ (z + o.length) (cs.drop (i + 1))) := by rw [hbm]; simp only [List.append_assoc]
      have w3 : bodyZ cs = (pre ++ digs k1 ++ digs o.length) ++ digs n.length ++ (o ++ n ++ pbZ (z + o.length) (cs.drop (i + 1))) := by rw [hbm]; simp only [List.append_assoc]
      have w4 : bodyZ cs = (pre ++ digs k1 ++ digs o.length ++ digs n.length) ++ o ++ (n ++ pbZ (z + o.length) (cs.drop (i + 1))) := by rw [hbm]; simp only [List.append_assoc]
      have w5 : bodyZ cs = (pre ++ digs k1 ++ digs o.length ++ digs n.length ++ o) ++ n ++ pbZ (z + o.length) (cs.drop (i + 1)) := hbm
      have r1 := rd_at w1 (j := pre.length) rfl
      have r2 := rd_at w2 (j := pre.length + (digs k1).length) (by simp only [List.length_append])
      have r3 := rd_at w3 (j := pre.length + (digs k1).length + (digs o.length).length) (by simp only [List.length_append])
      obtain ⟨r4, r4l⟩ := tk_at w4 (j := pre.length + (digs k1).length + (digs o.length).length + (digs n.length).length) (by simp only [List.length_append])
      obtain ⟨r5, r5l⟩ := tk_at w5 (j := pre.length + (digs k1).length + (digs o.length).length + (digs n.length).length + o.length) (by simp only [List.length_append])
      try simp only [tSeq, tAsg, tVar, tC, tOp, rI0, rI, tUn, rU, tIfS, tTest, tRet, tRetN, tDrop, tCB, tCons, tNil, tLst, tLstI, tTup, gName, tB, tAnd, tOr, tNot, tAndV, tOrV, tNotV, tIf, tNext, tBreak, tCont, gSub, tCall, tCallN, tAug, ipI, tBML, tBML0, isL_IL, isL_lst, L2.start, List.map_cons, List.map_nil, List.length_cons, List.length_nil, List.cons_append, List.nil_append, List.getElem?_cons_succ, List.getElem?_cons_zero, Option.some.injEq, exists_eq_left', exists_eq_left, exists_and_left, V.int.injEq, V.ref.injEq, V.bl.injEq, V.str.injEq, List.set_cons_zero, List.set_cons_succ, List.cons.injEq, and_true, true_and, Nat.reduceAdd, Nat.reduceSub, List.replicate_succ, List.replicate_zero, rIxI, rIxH, rIxTH, rSetI, rSetH, rCatI, rRepI, rSlI, rAppendI, rExtendI, decide_eq_true_eq, upd_same, IL_inj, HO.lst.injEq, toInts_cons, toInts_nil, Option.map_some, if_true, if_false, Bool.true_eq_false, Bool.false_eq_true, Bool.not_true, Bool.not_false, Bool.not_eq_true', decide_eq_false_iff_not, atI_0, atI_1, atI_2, atI_3, atI_4, Int.reduceToNat, Int.reduceLT, Int.reduceLE, Int.reduceNeg, Int.reducePow, cast_lit, upd_upd, Int.reduceAdd, Int.reduceMul, Int.reduceSub, Nat.reduceLT, Nat.reduceLeDiff, cmul_r, cdiv_r, tSl, tPart, tNoPart, rEq, rNe, scal_nn, scal_ii, scal_bb, scal_ss, scal_is, scal_si, V.ty.injEq, and_assoc, tyH_non, tyH_bl, tyH_int, tyH_str, tyH_ref, tyO_lst, tyO_IL, tyO_tup, itO_lst, itO_tup, itO_IL, Dw.rIxD, rLenI, rLenH, rLenTH, rLenQ, rLenB, rListI, Dw.rListS, rIntI, rIntB, rSumI, rIsiD, rIsX, tCallS, tMakeS, tMake, tMakeC, tMakeSC, tFld, sFld, HO.ins.injEq, HO.tup.injEq, cxOf_K, nox_K, tr_K, suite_K, rTupleI, rAllB, rAnyB, BL_inj, tChain, wOnly, wAs, wMany, rEqI, rNeI, Dw.rMax2, rMin2, Dw.rIsN, rIsNotN, rStrIn, rStrNotIn, not_true_eq_false, not_false_eq_true, reduceCtorEq, cl_bool, cl_int, cl_str, cl_list, cl_tuple, isB_NoneType_bool, isB_NoneType_int, isB_NoneType_str, isB_NoneType_list, isB_NoneType_tuple, isB_bool_bool, isB_bool_int, isB_bool_str, isB_bool_list, isB_bool_tuple, isB_int_bool, isB_int_int, isB_int_str, isB_int_list, isB_int_tuple, isB_str_bool, isB_str_int, isB_str_str, isB_str_list, isB_str_tuple, isB_list_bool, isB_list_int, isB_list_str, isB_list_list, isB_list_tuple, isB_tuple_bool, isB_tuple_int, isB_tuple_str, isB_tuple_list, isB_tuple_tuple, rSlCI, iRng3, iRev, gCons, gNil, iZip, iEnum, tLc_eq, tFor_eq, iRng1, iRng2, iList, iTup, rSetD, iKeys, tDNewK, Int.reducePow, Int.reduceNeg, iEz, tPar, tRevL, Dw.rSetL, Dw.rIxL, rIxE, iSeqA, rListTI]
      refine ⟨a, bodyZ cs, _, rfl, s3 _ _ hA, by omega, fun v j hv t4 H4 s4 n4 e4 => ?_, fun h => by rw [r1] at h; cases h⟩
      rw [r1] at hv
      cases hv
      refine ⟨t4, _, rfl, .of e4, rfl, ?_⟩
      try simp only [tSeq, tAsg, tVar, tC, tOp, rI0, rI, tUn, rU, tIfS, tTest, tRet, tRetN, tDrop, tCB, tCons, tNil, tLst, tLstI, tTup, gName, tB, tAnd, tOr, tNot, tAndV, tOrV, tNotV, tIf, tNext, tBreak, tCont, gSub, tCall, tCallN, tAug, ipI, tBML, tBML0, isL_IL, isL_lst, L2.start, List.map_cons, List.map_nil, List.length_cons, List.length_nil, List.cons_append, List.nil_append, List.getElem?_cons_succ, List.getElem?_cons_zero, Option.some.injEq, exists_eq_left', exists_eq_left, exists_and_left, V.int.injEq, V.ref.injEq, V.bl.injEq, V.str.injEq, List.set_cons_zero, List.set_cons_succ, List.cons.injEq, and_true, true_and, Nat.reduceAdd, Nat.reduceSub, List.replicate_succ, List.replicate_zero, rIxI, rIxH, rIxTH, rSetI, rSetH, rCatI, rRepI, rSlI, rAppendI, rExtendI, decide_eq_true_eq, upd_same, IL_inj, HO.lst.injEq, toInts_cons, toInts_nil, Option.map_some, if_true, if_false, Bool.true_eq_false, Bool.false_eq_true, Bool.not_true, Bool.not_false, Bool.not_eq_true', decide_eq_false_iff_not, atI_0, atI_1, atI_2, atI_3, atI_4, Int.reduceToNat, Int.reduceLT, Int.reduceLE, Int.reduceNeg, Int.reducePow, cast_lit, upd_upd, Int.reduceAdd, Int.reduceMul, Int.reduceSub, Nat.reduceLT, Nat.reduceLeDiff, cmul_r, cdiv_r, tSl, tPart, tNoPart, rEq, rNe, scal_nn, scal_ii, scal_bb, scal_ss, scal_is, scal_si, V.ty.injEq, and_assoc, tyH_non, tyH_bl, tyH_int, tyH_str, tyH_ref, tyO_lst, tyO_IL, tyO_tup, itO_lst, itO_tup, itO_IL, Dw.rIxD, rLenI, rLenH, rLenTH, rLenQ, rLenB, rListI, Dw.rListS, rIntI, rIntB, rSumI, rIsiD, rIsX, tCallS, tMakeS, tMake, tMakeC, tMakeSC, tFld, sFld, HO.ins.injEq, HO.tup.injEq, cxOf_K, nox_K, tr_K, suite_K, rTupleI, rAllB, rAnyB, BL_inj, tChain, wOnly, wAs, wMany, rEqI, rNeI, Dw.rMax2, rMin2, Dw.rIsN, rIsNotN, rStrIn, rStrNotIn, not_true_eq_false, not_false_eq_true, reduceCtorEq, cl_bool, cl_int, cl_str, cl_list, cl_tuple, isB_NoneType_bool, isB_NoneType_int, isB_NoneType_str, isB_NoneType_list, isB_NoneType_tuple, isB_bool_bool, isB_bool_int, isB_bool_str, isB_bool_list, isB_bool_tuple, isB_int_bool, isB_int_int, isB_int_str, isB_int_list, isB_int_tuple, isB_str_bool, isB_str_int, isB_str_str, isB_str_list, isB_str_tuple, isB_list_bool, isB_list_int, isB_list_str, isB_list_list, isB_list_tuple, isB_tuple_bool, isB_tuple_int, isB_tuple_str, isB_tuple_list, isB_tuple_tuple, rSlCI, iRng3, iRev, gCons, gNil, iZip, iEnum, tLc_eq, tFor_eq, iRng1, iRng2, iList, iTup, rSetD, iKeys, tDNewK, Int.reducePow, Int.reduceNeg, iEz, tPar, tRevL, Dw.rSetL, Dw.rIxL, rIxE, iSeqA, rListTI]
      refine ⟨a, bodyZ cs, _, rfl, s4 _ _ (s3 _ _ hA), by omega, fun v j hv t5 H5 s5 n5 e5 => ?_, fun h => by rw [r2] at h; cases h⟩
      rw [r2] at hv
      cases hv
      refine ⟨t5, _, rfl, .of e5, rfl, ?_⟩
      try simp only [tSeq, tAsg, tVar, tC, tOp, rI0, rI, tUn, rU, tIfS, tTest, tRet, tRetN, tDrop, tCB, tCons, tNil, tLst, tLstI, tTup, gName, tB, tAnd, tOr, tNot, tAndV, tOrV, tNotV, tIf, tNext, tBreak, tCont, gSub, tCall, tCallN, tAug, ipI, tBML, tBML0, isL_IL, isL_lst, L2.start, List.map_cons, List.map_nil, List.length_cons, List.length_nil, List.cons_append, List.nil_append, List.getElem?_cons_succ, List.getElem?_cons_zero, Option.some.injEq, exists_eq_left', exists_eq_left, exists_and_left, V.int.injEq, V.ref.injEq, V.bl.injEq, V.str.injEq, List.set_cons_zero, List.set_cons_succ, List.cons.injEq, and_true, true_and, Nat.reduceAdd, Nat.reduceSub, List.replicate_succ, List.replicate_zero, rIxI, rIxH, rIxTH, rSetI, rSetH, rCatI, rRepI, rSlI, rAppendI, rExtendI, decide_eq_true_eq, upd_same, IL_inj, HO.lst.injEq, toInts_cons, toInts_nil, Option.map_some, if_true, if_false, Bool.true_eq_false, Bool.false_eq_true, Bool.not_true, Bool.not_false, Bool.not_eq_true', decide_eq_false_iff_not, atI_0, atI_1, atI_2, atI_3, atI_4, Int.reduceToNat, Int.reduceLT, Int.reduceLE, Int.reduceNeg, Int.reducePow, cast_lit, upd_upd, Int.reduceAdd, Int.reduceMul, Int.reduceSub, Nat.reduceLT, Nat.reduceLeDiff, cmul_r, cdiv_r, tSl, tPart, tNoPart, rEq, rNe, scal_nn, scal_ii, scal_bb, scal_ss, scal_is, scal_si, V.ty.injEq, and_assoc, tyH_non, tyH_bl, tyH_int, tyH_str, tyH_ref, tyO_lst, tyO_IL, tyO_tup, itO_lst, itO_tup, itO_IL, Dw.rIxD, rLenI, rLenH, rLenTH, rLenQ, rLenB, rListI, Dw.rListS, rIntI, rIntB, rSumI, rIsiD, rIsX, tCallS, tMakeS, tMake, tMakeC, tMakeSC, tFld, sFld, HO.ins.injEq, HO.tup.injEq, cxOf_K, nox_K, tr_K, suite_K, rTupleI, rAllB, rAnyB, BL_inj, tChain, wOnly, wAs, wMany, rEqI, rNeI, Dw.rMax2, rMin2, Dw.rIsN, rIsNotN, rStrIn, rStrNotIn, not_true_eq_false, not_false_eq_true, reduceCtorEq, cl_bool, cl_int, cl_str, cl_list, cl_tuple, isB_NoneType_bool, isB_NoneType_int, isB_NoneType_str, isB_NoneType_list, isB_NoneType_tuple, isB_bool_bool, isB_bool_int, isB_bool_str, isB_bool_list, isB_bool_tuple, isB_int_bool, isB_int_int, isB_int_str, isB_int_list, isB_int_tuple, isB_str_bool, isB_str_int, isB_str_str, isB_str_list, isB_str_tuple, isB_list_bool, isB_list_int, isB_list_str, isB_list_list, isB_list_tuple, isB_tuple_bool, isB_tuple_int, isB_tuple_str, isB_tuple_list, isB_tuple_tuple, rSlCI, iRng3, iRev, gCons, gNil, iZip, iEnum, tLc_eq, tFor_eq, iRng1, iRng2, iList, iTup, rSetD, iKeys, tDNewK, Int.reducePow, Int.reduceNeg, iEz, tPar, tRevL, Dw.rSetL, Dw.rIxL, rIxE, iSeqA, rListTI]
      refine ⟨a, bodyZ cs, _, rfl, s5 _ _ (s4 _ _ (s3 _ _ hA)), by omega, fun v j hv t6 H6 s6 n6 e6 => ?_, fun h => by rw [r3] at h; cases h⟩
      rw [r3] at hv
      cases hv
      refine ⟨t6, _, rfl, .of e6, rfl, ?_⟩
      try simp only [tSeq, tAsg, tVar, tC, tOp, rI0, rI, tUn, rU, tIfS, tTest, tRet, tRetN, tDrop, tCB, tCons, tNil, tLst, tLstI, tTup, gName, tB, tAnd, tOr, tNot, tAndV, tOrV, tNotV, tIf, tNext, tBreak, tCont, gSub, tCall, tCallN, tAug, ipI, tBML, tBML0, isL_IL, isL_lst, L2.start, List.map_cons, List.map_nil, List.length_cons, List.length_nil, List.cons_append, List.nil_append, List.getElem?_cons_succ, List.getElem?_cons_zero, Option.some.injEq, exists_eq_left', exists_eq_left, exists_and_left, V.int.injEq, V.ref.injEq, V.bl.injEq, V.str.injEq, List.set_cons_zero, List.set_cons_succ, List.cons.injEq, and_true, true_and, Nat.reduceAdd, Nat.reduceSub, List.replicate_succ, List.replicate_zero, rIxI, rIxH, rIxTH, rSetI, rSetH, rCatI, rRepI, rSlI, rAppendI, rExtendI, decide_eq_true_eq, upd_same, IL_inj, HO.lst.injEq, toInts_cons, toInts_nil, Option.map_some, if_true, if_false, Bool.true_eq_false, Bool.false_eq_true, Bool.not_true, Bool.not_false, Bool.not_eq_true', decide_eq_false_iff_not, atI_0, atI_1, atI_2, atI_3, atI_4, Int.reduceToNat, Int.reduceLT, Int.reduceLE, Int.reduceNeg, Int.reducePow, cast_lit, upd_upd, Int.reduceAdd, Int.reduceMul, Int.reduceSub, Nat.reduceLT, Nat.reduceLeDiff, cmul_r, cdiv_r, tSl, tPart, tNoPart, rEq, rNe, scal_nn, scal_ii, scal_bb, scal_ss, scal_is, scal_si, V.ty.injEq, and_assoc, tyH_non, tyH_bl, tyH_int, tyH_str, tyH_ref, tyO_lst, tyO_IL, tyO_tup, itO_lst, itO_tup, itO_IL, Dw.rIxD, rLenI, rLenH, rLenTH, rLenQ, rLenB, rListI, Dw.rListS, rIntI, rIntB, rSumI, rIsiD, rIsX, tCallS, tMakeS, tMake, tMakeC, tMakeSC, tFld, sFld, HO.ins.injEq, HO.tup.injEq, cxOf_K, nox_K, tr_K, suite_K, rTupleI, rAllB, rAnyB, BL_inj, tChain, wOnly, wAs, wMany, rEqI, rNeI, Dw.rMax2, rMin2, Dw.rIsN, rIsNotN, rStrIn, rStrNotIn, not_true_eq_false, not_false_eq_true, reduceCtorEq, cl_bool, cl_int, cl_str, cl_list, cl_tuple, isB_NoneType_bool, isB_NoneType_int, isB_NoneType_str, isB_NoneType_list, isB_NoneType_tuple, isB_bool_bool, isB_bool_int, isB_bool_str, isB_bool_list, isB_bool_tuple, isB_int_bool, isB_int_int, isB_int_str, isB_int_list, isB_int_tuple, isB_str_bool, isB_str_int, isB_str_str, isB_str_list, isB_str_tuple, isB_list_bool, isB_list_int, isB_list_str, isB_list_list, isB_list_tuple, isB_tuple_bool, isB_tuple_int, isB_tuple_str, isB_tuple_list, isB_tuple_tuple, rSlCI, iRng3, iRev, gCons, gNil, iZip, iEnum, tLc_eq, tFor_eq, iRng1, iRng2, iList, iTup, rSetD, iKeys, tDNewK, Int.reducePow, Int.reduceNeg, iEz, tPar, tRevL, Dw.rSetL, Dw.rIxL, rIxE, iSeqA, rListTI]
      have sA := s4.trans (s5.trans s6)
      refine ⟨a, bodyZ cs, _, o.length, rfl, sA _ _ (s3 _ _ hA), fun _ t7 u7 H7 s7 n7 e7 f7' => ?_, fun h => absurd r4l h⟩
      rw [r4] at f7'
      refine ⟨t7, _, rfl, .of e7, rfl, ?_⟩
      try simp only [tSeq, tAsg, tVar, tC, tOp, rI0, rI, tUn, rU, tIfS, tTest, tRet, tRetN, tDrop, tCB, tCons, tNil, tLst, tLstI, tTup, gName, tB, tAnd, tOr, tNot, tAndV, tOrV, tNotV, tIf, tNext, tBreak, tCont, gSub, tCall, tCallN, tAug, ipI, tBML, tBML0, isL_IL, isL_lst, L2.start, List.map_cons, List.map_nil, List.length_cons, List.length_nil, List.cons_append, List.nil_append, List.getElem?_cons_succ, List.getElem?_cons_zero, Option.some.injEq, exists_eq_left', exists_eq_left, exists_and_left, V.int.injEq, V.ref.injEq, V.bl.injEq, V.str.injEq, List.set_cons_zero, List.set_cons_succ, List.cons.injEq, and_true, true_and, Nat.reduceAdd, Nat.reduceSub, List.replicate_succ, List.replicate_zero, rIxI, rIxH, rIxTH, rSetI, rSetH, rCatI, rRepI, rSlI, rAppendI, rExtendI, decide_eq_true_eq, upd_same, IL_inj, HO.lst.injEq, toInts_cons, toInts_nil, Option.map_some, if_true, if_false, Bool.true_eq_false, Bool.false_eq_true, Bool.not_true, Bool.not_false, Bool.not_eq_true', decide_eq_false_iff_not, atI_0, atI_1, atI_2, atI_3, atI_4, Int.reduceToNat, Int.reduceLT, Int.reduceLE, Int.reduceNeg, Int.reducePow, cast_lit, upd_upd, Int.reduceAdd, Int.reduceMul, Int.reduceSub, Nat.reduceLT, Nat.reduceLeDiff, cmul_r, cdiv_r, tSl, tPart, tNoPart, rEq, rNe, scal_nn, scal_ii, scal_bb, scal_ss, scal_is, scal_si, V.ty.injEq, and_assoc, tyH_non, tyH_bl, tyH_int, tyH_str, tyH_ref, tyO_lst, tyO_IL, tyO_tup, itO_lst, itO_tup, itO_IL, Dw.rIxD, rLenI, rLenH, rLenTH, rLenQ, rLenB, rListI, Dw.rListS, rIntI, rIntB, rSumI, rIsiD, rIsX, tCallS, tMakeS, tMake, tMakeC, tMakeSC, tFld, sFld, HO.ins.injEq, HO.tup.injEq, cxOf_K, nox_K, tr_K, suite_K, rTupleI, rAllB, rAnyB, BL_inj, tChain, wOnly, wAs, wMany, rEqI, rNeI, Dw.rMax2, rMin2, Dw.rIsN, rIsNotN, rStrIn, rStrNotIn, not_true_eq_false, not_false_eq_true, reduceCtorEq, cl_bool, cl_int, cl_str, cl_list, cl_tuple, isB_NoneType_bool, isB_NoneType_int, isB_NoneType_str, isB_NoneType_list, isB_NoneType_tuple, isB_bool_bool, isB_bool_int, isB_bool_str, isB_bool_list, isB_bool_tuple, isB_int_bool, isB_int_int, isB_int_str, isB_int_list, isB_int_tuple, isB_str_bool, isB_str_int, isB_str_str, isB_str_list, isB_str_tuple, isB_list_bool, isB_list_int, isB_list_str, isB_list_list, isB_list_tuple, isB_tuple_bool, isB_tuple_int, isB_tuple_str, isB_tuple_list, isB_tuple_tuple, rSlCI, iRng3, iRev, gCons, gNil, iZip, iEnum, tLc_eq, tFor_eq, iRng1, iRng2, iList, iTup, rSetD, iKeys, tDNewK, Int.reducePow, Int.reduceNeg, iEz, tPar, tRevL, Dw.rSetL, Dw.rIxL, rIxE, iSeqA, rListTI]
      refine ⟨a, bodyZ cs, _, n.length, rfl, s7 _ _ (sA _ _ (s3 _ _ hA)), fun _ t8 u8 H8 s8 n8 e8 f8 => ?_, fun h => absurd r5l h⟩
      rw [r5] at f8
      refine ⟨t8, _, rfl, .of e8, rfl, ?_⟩
      try simp only [tSeq, tAsg, tVar, tC, tOp, rI0, rI, tUn, rU, tIfS, tTest, tRet, tRetN, tDrop, tCB, tCons, tNil, tLst, tLstI, tTup, gName, tB, tAnd, tOr, tNot, tAndV, tOrV, tNotV, tIf, tNext, tBreak, tCont, gSub, tCall, tCallN, tAug, ipI, tBML, tBML0, isL_IL, isL_lst, L2.start, List.map_cons, List.map_nil, List.length_cons, List.length_nil, List.cons_append, List.nil_append, List.getElem?_cons_succ, List.getElem?_cons_zero, Option.some.injEq, exists_eq_left', exists_eq_left, exists_and_left, V.int.injEq, V.ref.injEq, V.bl.injEq, V.str.injEq, List.set_cons_zero, List.set_cons_succ, List.cons.injEq, and_true, true_and, Nat.reduceAdd, Nat.reduceSub, List.replicate_succ, List.replicate_zero, rIxI, rIxH, rIxTH, rSetI, rSetH, rCatI, rRepI, rSlI, rAppendI, rExtendI, decide_eq_true_eq, upd_same, IL_inj, HO.lst.injEq, toInts_cons, toInts_nil, Option.map_some, if_true, if_false, Bool.true_eq_false, Bool.false_eq_true, Bool.not_true, Bool.not_false, Bool.not_eq_true', decide_eq_false_iff_not, atI_0, atI_1, atI_2, atI_3, atI_4, Int.reduceToNat, Int.reduceLT, Int.reduceLE, Int.reduceNeg, Int.reducePow, cast_lit, upd_upd, Int.reduceAdd, Int.reduceMul, Int.reduceSub, Nat.reduceLT, Nat.reduceLeDiff, cmul_r, cdiv_r, tSl, tPart, tNoPart, rEq, rNe, scal_nn, scal_ii, scal_bb, scal_ss, scal_is, scal_si, V.ty.injEq, and_assoc, tyH_non, tyH_bl, tyH_int, tyH_str, tyH_ref, tyO_lst, tyO_IL, tyO_tup, itO_lst, itO_tup, itO_IL, Dw.rIxD, rLenI, rLenH, rLenTH, rLenQ, rLenB, rListI, Dw.rListS, rIntI, rIntB, rSumI, rIsiD, rIsX, tCallS, tMakeS, tMake, tMakeC, tMakeSC, tFld, sFld, HO.ins.injEq, HO.tup.injEq, cxOf_K, nox_K, tr_K, suite_K, rTupleI, rAllB, rAnyB, BL_inj, tChain, wOnly, wAs, wMany, rEqI, rNeI, Dw.rMax2, rMin2, Dw.rIsN, rIsNotN, rStrIn, rStrNotIn, not_true_eq_false, not_false_eq_true, reduceCtorEq, cl_bool, cl_int, cl_str, cl_list, cl_tuple, isB_NoneType_bool, isB_NoneType_int, isB_NoneType_str, isB_NoneType_list, isB_NoneType_tuple, isB_bool_bool, isB_bool_int, isB_bool_str, isB_bool_list, isB_bool_tuple, isB_int_bool, isB_int_int, isB_int_str, isB_int_list, isB_int_tuple, isB_str_bool, isB_str_int, isB_str_str, isB_str_list, isB_str_tuple, isB_list_bool, isB_list_int, isB_list_str, isB_list_list, isB_list_tuple, isB_tuple_bool, isB_tuple_int, isB_tuple_str, isB_tuple_list, isB_tuple_tuple, rSlCI, iRng3, iRev, gCons, gNil, iZip, iEnum, tLc_eq, tFor_eq, iRng1, iRng2, iList, iTup, rSetD, iKeys, tDNewK, Int.reducePow, Int.reduceNeg, iEz, tPar, tRevL, Dw.rSetL, Dw.rIxL, rIxE, iSeqA, rListTI]
      have sB := s4.trans (s5.trans (s6.trans (s7.trans s8)))
      replace eY := sB _ _ eY
      refine ⟨by rw [eY]; rfl, line_le (by decide), fun u9 nu9 => ?_⟩
      have su9 := same_new nu9 (HO.tup [V.int (e + ↑k1), V.ref u7, V.ref u8])
      have eu9 : upd H8 u9 (HO.tup [V.int (e + ↑k1), V.ref u7, V.ref u8]) u9 = _ := upd_same
      generalize upd H8 u9 (HO.tup [V.int (e + ↑k1), V.ref u7, V.ref u8]) = H9 at su9 eu9  ⊢
      replace eY := su9 _ _ eY
      have hez : e + (k1 : Int) = z := by omega
      have hcx : ChAt H9 (.ref u9) (z, o, n) := ⟨u9, u7, u8, rfl, by rw [eu9, hez], su9 _ _ (s8 _ _ f7'), su9 _ _ f8⟩
      have hC9 := (hC.same (sB.trans su9)).push hcx
      have hyl := hC.1
      rw [List.length_take] at hyl
      refine ⟨D, ys, _, rfl, rfl, eY, line_lt (by omega), ?_⟩
      rw [hI]
      rw [hez, show pre.length + (digs k1).length + (digs o.length).length + (digs n.length).length + o.length + n.length = (pre ++ digs k1 ++ digs o.length ++ digs n.length ++ o ++ n).length by simp only [List.length_append]]
      refine ⟨Same.put (s3.trans (sB.trans su9)) nH _, _, z + o.length, _, _, _, _, _, _, _, upd_same, by rw [take_more hc]; exact hC9.ups eY (fun _ e => by cases e), by omega, f7, hbm, rfl⟩
    · intro σ H3 h
      rw [hI] at h
      obtain ⟨s3, pre, e, ys, y5, y6, y7, y8, y9, y10, eY, hC, e0, hf, hb, rfl⟩ := h
      rw [List.drop_length] at hb
      have hb : bodyZ cs = pre := by rw [hb]; exact List.append_nil _
      subst hb
      rw [List.take_length] at hC
      try simp only [tSeq, tAsg, tVar, tC, tOp, rI0, rI, tUn, rU, tIfS, tTest, tRet, tRetN, tDrop, tCB, tCons, tNil, tLst, tLstI, tTup, gName, tB, tAnd, tOr, tNot, tAndV, tOrV, tNotV, tIf, tNext, tBreak, tCont, gSub, tCall, tCallN, tAug, ipI, tBML, tBML0, isL_IL, isL_lst, L2.start, List.map_cons, List.map_nil, List.length_cons, List.length_nil, List.cons_append, List.nil_append, List.getElem?_cons_succ, List.getElem?_cons_zero, Option.some.injEq, exists_eq_left', exists_eq_left, exists_and_left, V.int.injEq, V.ref.injEq, V.bl.injEq, V.str.injEq, List.set_cons_zero, List.set_cons_succ, List.cons.injEq, and_true, true_and, Nat.reduceAdd, Nat.reduceSub, List.replicate_succ, List.replicate_zero, rIxI, rIxH, rIxTH, rSetI, rSetH, rCatI, rRepI, rSlI, rAppendI, rExtendI, decide_eq_true_eq, upd_same, IL_inj, HO.lst.injEq, toInts_cons, toInts_nil, Option.map_some, if_true, if_false, Bool.true_eq_false, Bool.false_eq_true, Bool.not_true, Bool.not_false, Bool.not_eq_true', decide_eq_false_iff_not, atI_0, atI_1, atI_2, atI_3, atI_4, Int.reduceToNat, Int.reduceLT, Int.reduceLE, Int.reduceNeg, Int.reducePow, cast_lit, upd_upd, Int.reduceAdd, Int.reduceMul, Int.reduceSub, Nat.reduceLT, Nat.reduceLeDiff, cmul_r, cdiv_r, tSl, tPart, tNoPart, rEq, rNe, scal_nn, scal_ii, scal_bb, scal_ss, scal_is, scal_si, V.ty.injEq, and_assoc, tyH_non, tyH_bl, tyH_int, tyH_str, tyH_ref, tyO_lst, tyO_IL, tyO_tup, itO_lst, itO_tup, itO_IL, Dw.rIxD, rLenI, rLenH, rLenTH, rLenQ, rLenB, rListI, Dw.rListS, rIntI, rIntB, rSumI, rIsiD, rIsX, tCallS, tMakeS, tMake, tMakeC, tMakeSC, tFld, sFld, HO.ins.injEq, HO.tup.injEq, cxOf_K, nox_K, tr_K, suite_K, rTupleI, rAllB, rAnyB, BL_inj, tChain, wOnly, wAs, wMany, rEqI, rNeI, Dw.rMax2, rMin2, Dw.rIsN, rIsNotN, rStrIn, rStrNotIn, not_true_eq_false, not_false_eq_true, reduceCtorEq, cl_bool, cl_int, cl_str, cl_list, cl_tuple, isB_NoneType_bool, isB_NoneType_int, isB_NoneType_str, isB_NoneType_list, isB_NoneType_tuple, isB_bool_bool, isB_bool_int, isB_bool_str, isB_bool_list, isB_bool_tuple, isB_int_bool, isB_int_int, isB_int_str, isB_int_list, isB_int_tuple, isB_str_bool, isB_str_int, isB_str_str, isB_str_list, isB_str_tuple, isB_list_bool, isB_list_int, isB_list_str, isB_list_list, isB_list_tuple, isB_tuple_bool, isB_tuple_int, isB_tuple_str, isB_tuple_list, isB_tuple_tuple, rSlCI, iRng3, iRev, gCons, gNil, iZip, iEnum, tLc_eq, tFor_eq, iRng1, iRng2, iList, iTup, rSetD, iKeys, tDNewK, Int.reducePow, Int.reduceNeg, iEz, tPar, tRevL, Dw.rSetL, Dw.rIxL, rIxE, iSeqA, rListTI, s3 _ _ hA]
      exact k D ys H3 s3 nH eY hC
  · refine ⟨a, W, 2, rfl, hA, by omega, fun v j hv t1 H1 s1 n1 e1 => ?_, fun _ H1 s1 => kn _ s1⟩
    obtain ⟨N, rfl, w1, w2, w3, w4⟩ := rd_canon hWb hv
    rw [hW2] at w1
    refine ⟨t1, _, rfl, .of e1, rfl, ?_⟩
    try simp only [tSeq, tAsg, tVar, tC, tOp, rI0, rI, tUn, rU, tIfS, tTest, tRet, tRetN, tDrop, tCB, tCons, tNil, tLst, tLstI, tTup, gName, tB, tAnd, tOr, tNot, tAndV, tOrV, tNotV, tIf, tNext, tBreak, tCont, gSub, tCall, tCallN, tAug, ipI, tBML, tBML0, isL_IL, isL_lst, L2.start, List.map_cons, List.map_nil, List.length_cons, List.length_nil, List.cons_append, List.nil_append, List.getElem?_cons_succ, List.getElem?_cons_zero, Option.some.injEq, exists_eq_left', exists_eq_left, exists_and_left, V.int.injEq, V.ref.injEq, V.bl.injEq, V.str.injEq, List.set_cons_zero, List.set_cons_succ, List.cons.injEq, and_true, true_and, Nat.reduceAdd, Nat.reduceSub, List.replicate_succ, List.replicate_zero, rIxI, rIxH, rIxTH, rSetI, rSetH, rCatI, rRepI, rSlI, rAppendI, rExtendI, decide_eq_true_eq, upd_same, IL_inj, HO.lst.injEq, toInts_cons, toInts_nil, Option.map_some, if_true, if_false, Bool.true_eq_false, Bool.false_eq_true, Bool.not_true, Bool.not_false, Bool.not_eq_true', decide_eq_false_iff_not, atI_0, atI_1, atI_2, atI_3, atI_4, Int.reduceToNat, Int.reduceLT, Int.reduceLE, Int.reduceNeg, Int.reducePow, cast_lit, upd_upd, Int.reduceAdd, Int.reduceMul, Int.reduceSub, Nat.reduceLT, Nat.reduceLeDiff, cmul_r, cdiv_r, tSl, tPart, tNoPart, rEq, rNe, scal_nn, scal_ii, scal_bb, scal_ss, scal_is, scal_si, V.ty.injEq, and_assoc, tyH_non, tyH_bl, tyH_int, tyH_str, tyH_ref, tyO_lst, tyO_IL, tyO_tup, itO_lst, itO_tup, itO_IL, Dw.rIxD, rLenI, rLenH, rLenTH, rLenQ, rLenB, rListI, Dw.rListS, rIntI, rIntB, rSumI, rIsiD, rIsX, tCallS, tMakeS, tMake, tMakeC, tMakeSC, tFld, sFld, HO.ins.injEq, HO.tup.injEq, cxOf_K, nox_K, tr_K, suite_K, rTupleI, rAllB, rAnyB, BL_inj, tChain, wOnly, wAs, wMany, rEqI, rNeI, Dw.rMax2, rMin2, Dw.rIsN, rIsNotN, rStrIn, rStrNotIn, not_true_eq_false, not_false_eq_true, reduceCtorEq, cl_bool, cl_int, cl_str, cl_list, cl_tuple, isB_NoneType_bool, isB_NoneType_int, isB_NoneType_str, isB_NoneType_list, isB_NoneType_tuple, isB_bool_bool, isB_bool_int, isB_bool_str, isB_bool_list, isB_bool_tuple, isB_int_bool, isB_int_int, isB_int_str, isB_int_list, isB_int_tuple, isB_str_bool, isB_str_int, isB_str_str, isB_str_list, isB_str_tuple, isB_list_bool, isB_list_int, isB_list_str, isB_list_list, isB_list_tuple, isB_tuple_bool, isB_tuple_int, isB_tuple_str, isB_tuple_list, isB_tuple_tuple, rSlCI, iRng3, iRev, gCons, gNil, iZip, iEnum, tLc_eq, tFor_eq, iRng1, iRng2, iList, iTup, rSetD, iKeys, tDNewK, Int.reducePow, Int.reduceNeg, iEz, tPar, tRevL, Dw.rSetL, Dw.rIxL, rIxE, iSeqA, rListTI]
    by_cases cN : (500 : Int) < (N : Int)
    · rw [if_pos cN]
      exact kn _ s1
    rw [if_neg cN]
    refine ⟨Nat.zero_le _, fun D nD => ?_⟩
    have sD := same_new nD (HO.lst [])
    have eD : upd H1 D (HO.lst []) D = _ := upd_same
    generalize upd H1 D (HO.lst []) = H2 at sD eD  ⊢
    have nH : H D = none := same_none s1 nD
    rw [Int.toNat_natCast]
    refine ⟨by omega, by omega, ?_⟩
    obtain ⟨I, hI⟩ : ∃ F : Nat → L2.St → Hp → Prop, F = (fun i σ H' => Same H H' ∧ ∃ (done : List Ch) (j : Nat) (ys : List V) (y5 y6 y7 y8 y9 y10 : Option V), H' D = some (.lst ys) ∧ ChsAt H' ys done ∧ done.length = i ∧ Chain 0 done ∧ j ≤ W.length ∧ W.take j = [80, 65] ++ digs N ++ pbZ 0 done ∧ σ = [some (V.ref a), some (V.int (N : Int)), some (V.int (j : Int)), some (V.ref D), some (V.int (endP 0 done)), y5, y6, y7, y8, y9, y10]) := ⟨_, rfl⟩
    refine forR I (by rw [hI]; exact ⟨s1.trans sD, [], j, [], _, _, _, _, _, _, eD, .nil, rfl, trivial, w2, by rw [w1]; exact (List.append_nil _).symm, rfl⟩) ?_ ?_
    · intro i σ H3 hi h
      rw [hI] at h
      obtain ⟨s3, done, j, ys, y5, y6, y7, y8, y9, y10, eY, hC, hdl, hCh, hj, hWj, rfl⟩ := h
      have he := endP_ge hCh
      try simp only [tSeq, tAsg, tVar, tC, tOp, rI0, rI, tUn, rU, tIfS, tTest, tRet, tRetN, tDrop, tCB, tCons, tNil, tLst, tLstI, tTup, gName, tB, tAnd, tOr, tNot, tAndV, tOrV, tNotV, tIf, tNext, tBreak, tCont, gSub, tCall, tCallN, tAug, ipI, tBML, tBML0, isL_IL, isL_lst, L2.start, List.map_cons, List.map_nil, List.length_cons, List.length_nil, List.cons_append, List.nil_append, List.getElem?_cons_succ, List.getElem?_cons_zero, Option.some.injEq, exists_eq_left', exists_eq_left, exists_and_left, V.int.injEq, V.ref.injEq, V.bl.injEq, V.str.injEq, List.set_cons_zero, List.set_cons_succ, List.cons.injEq, and_true, true_and, Nat.reduceAdd, Nat.reduceSub, List.replicate_succ, List.replicate_zero, rIxI, rIxH, rIxTH, rSetI, rSetH, rCatI, rRepI, rSlI, rAppendI, rExtendI, decide_eq_true_eq, upd_same, IL_inj, HO.lst.injEq, toInts_cons, toInts_nil, Option.map_some, if_true, if_false, Bool.true_eq_false, Bool.false_eq_true, Bool.not_true, Bool.not_false, Bool.not_eq_true', decide_eq_false_iff_not, atI_0, atI_1, atI_2, atI_3, atI_4, Int.reduceToNat, Int.reduceLT, Int.reduceLE, Int.reduceNeg, Int.reducePow, cast_lit, upd_upd, Int.reduceAdd, Int.reduceMul, Int.reduceSub, Nat.reduceLT, Nat.reduceLeDiff, cmul_r, cdiv_r, tSl, tPart, tNoPart, rEq, rNe, scal_nn, scal_ii, scal_bb, scal_ss, scal_is, scal_si, V.ty.injEq, and_assoc, tyH_non, tyH_bl, tyH_int, tyH_str, tyH_ref, tyO_lst, tyO_IL, tyO_tup, itO_lst, itO_tup, itO_IL, Dw.rIxD, rLenI, rLenH, rLenTH, rLenQ, rLenB, rListI, Dw.rListS, rIntI, rIntB, rSumI, rIsiD, rIsX, tCallS, tMakeS, tMake, tMakeC, tMakeSC, tFld, sFld, HO.ins.injEq, HO.tup.injEq, cxOf_K, nox_K, tr_K, suite_K, rTupleI, rAllB, rAnyB, BL_inj, tChain, wOnly, wAs, wMany, rEqI, rNeI, Dw.rMax2, rMin2, Dw.rIsN, rIsNotN, rStrIn, rStrNotIn, not_true_eq_false, not_false_eq_true, reduceCtorEq, cl_bool, cl_int, cl_str, cl_list, cl_tuple, isB_NoneType_bool, isB_NoneType_int, isB_NoneType_str, isB_NoneType_list, isB_NoneType_tuple, isB_bool_bool, isB_bool_int, isB_bool_str, isB_bool_list, isB_bool_tuple, isB_int_bool, isB_int_int, isB_int_str, isB_int_list, isB_int_tuple, isB_str_bool, isB_str_int, isB_str_str, isB_str_list, isB_str_tuple, isB_list_bool, isB_list_int, isB_list_str, isB_list_list, isB_list_tuple, isB_tuple_bool, isB_tuple_int, isB_tuple_str, isB_tuple_list, isB_tuple_tuple, rSlCI, iRng3, iRev, gCons, gNil, iZip, iEnum, tLc_eq, tFor_eq, iRng1, iRng2, iList, iTup, rSetD, iKeys, tDNewK, Int.reducePow, Int.reduceNeg, iEz, tPar, tRevL, Dw.rSetL, Dw.rIxL, rIxE, iSeqA, rListTI]
      refine ⟨a, W, j, rfl, s3 _ _ hA, by omega, fun v j1 hv t4 H4 s4 n4 e4 => ?_, fun _ H4 s4 => kn _ (s3.trans s4)⟩
      obtain ⟨b, rfl, a1, a2, a3, a4⟩ := rd_canon hWb hv
      refine ⟨t4, _, rfl, .of e4, rfl, ?_⟩
      try simp only [tSeq, tAsg, tVar, tC, tOp, rI0, rI, tUn, rU, tIfS, tTest, tRet, tRetN, tDrop, tCB, tCons, tNil, tLst, tLstI, tTup, gName, tB, tAnd, tOr, tNot, tAndV, tOrV, tNotV, tIf, tNext, tBreak, tCont, gSub, tCall, tCallN, tAug, ipI, tBML, tBML0, isL_IL, isL_lst, L2.start, List.map_cons, List.map_nil, List.length_cons, List.length_nil, List.cons_append, List.nil_append, List.getElem?_cons_succ, List.getElem?_cons_zero, Option.some.injEq, exists_eq_left', exists_eq_left, exists_and_left, V.int.injEq, V.ref.injEq, V.bl.injEq, V.str.injEq, List.set_cons_zero, List.set_cons_succ, List.cons.injEq, and_true, true_and, Nat.reduceAdd, Nat.reduceSub, List.replicate_succ, List.replicate_zero, rIxI, rIxH, rIxTH, rSetI, rSetH, rCatI, rRepI, rSlI, rAppendI, rExtendI, decide_eq_true_eq, upd_same, IL_inj, HO.lst.injEq, toInts_cons, toInts_nil, Option.map_some, if_true, if_false, Bool.true_eq_false, Bool.false_eq_true, Bool.not_true, Bool.not_false, Bool.not_eq_true', decide_eq_false_iff_not, atI_0, atI_1, atI_2, atI_3, atI_4, Int.reduceToNat, Int.reduceLT, Int.reduceLE, Int.reduceNeg, Int.reducePow, cast_lit, upd_upd, Int.reduceAdd, Int.reduceMul, Int.reduceSub, Nat.reduceLT, Nat.reduceLeDiff, cmul_r, cdiv_r, tSl, tPart, tNoPart, rEq, rNe, scal_nn, scal_ii, scal_bb, scal_ss, scal_is, scal_si, V.ty.injEq, and_assoc, tyH_non, tyH_bl, tyH_int, tyH_str, tyH_ref, tyO_lst, tyO_IL, tyO_tup, itO_lst, itO_tup, itO_IL, Dw.rIxD, rLenI, rLenH, rLenTH, rLenQ, rLenB, rListI, Dw.rListS, rIntI, rIntB, rSumI, rIsiD, rIsX, tCallS, tMakeS, tMake, tMakeC, tMakeSC, tFld, sFld, HO.ins.injEq, HO.tup.injEq, cxOf_K, nox_K, tr_K, suite_K, rTupleI, rAllB, rAnyB, BL_inj, tChain, wOnly, wAs, wMany, rEqI, rNeI, Dw.rMax2, rMin2, Dw.rIsN, rIsNotN, rStrIn, rStrNotIn, not_true_eq_false, not_false_eq_true, reduceCtorEq, cl_bool, cl_int, cl_str, cl_list, cl_tuple, isB_NoneType_bool, isB_NoneType_int, isB_NoneType_str, isB_NoneType_list, isB_NoneType_tuple, isB_bool_bool, isB_bool_int, isB_bool_str, isB_bool_list, isB_bool_tuple, isB_int_bool, isB_int_int, isB_int_str, isB_int_list, isB_int_tuple, isB_str_bool, isB_str_int, isB_str_str, isB_str_list, isB_str_tuple, isB_list_bool, isB_list_int, isB_list_str, isB_list_list, isB_list_tuple, isB_tuple_bool, isB_tuple_int, isB_tuple_str, isB_tuple_list, isB_tuple_tuple, rSlCI, iRng3, iRev, gCons, gNil, iZip, iEnum, tLc_eq, tFor_eq, iRng1, iRng2, iList, iTup, rSetD, iKeys, tDNewK, Int.reducePow, Int.reduceNeg, iEz, tPar, tRevL, Dw.rSetL, Dw.rIxL, rIxE, iSeqA, rListTI]
      refine ⟨a, W, j1, rfl, s4 _ _ (s3 _ _ hA), by omega, fun v j2 hv t5 H5 s5 n5 e5 => ?_, fun _ H5 s5 => kn _ (s3.trans (s4.trans s5))⟩
      obtain ⟨oc, rfl, b1, b2, b3, b4⟩ := rd_canon hWb hv
      refine ⟨t5, _, rfl, .of e5, rfl, ?_⟩
      try simp only [tSeq, tAsg, tVar, tC, tOp, rI0, rI, tUn, rU, tIfS, tTest, tRet, tRetN, tDrop, tCB, tCons, tNil, tLst, tLstI, tTup, gName, tB, tAnd, tOr, tNot, tAndV, tOrV, tNotV, tIf, tNext, tBreak, tCont, gSub, tCall, tCallN, tAug, ipI, tBML, tBML0, isL_IL, isL_lst, L2.start, List.map_cons, List.map_nil, List.length_cons, List.length_nil, List.cons_append, List.nil_append, List.getElem?_cons_succ, List.getElem?_cons_zero, Option.some.injEq, exists_eq_left', exists_eq_left, exists_and_left, V.int.injEq, V.ref.injEq, V.bl.injEq, V.str.injEq, List.set_cons_zero, List.set_cons_succ, List.cons.injEq, and_true, true_and, Nat.reduceAdd, Nat.reduceSub, List.replicate_succ, List.replicate_zero, rIxI, rIxH, rIxTH, rSetI, rSetH, rCatI, rRepI, rSlI, rAppendI, rExtendI, decide_eq_true_eq, upd_same, IL_inj, HO.lst.injEq, toInts_cons, toInts_nil, Option.map_some, if_true, if_false, Bool.true_eq_false, Bool.false_eq_true, Bool.not_true, Bool.not_false, Bool.not_eq_true', decide_eq_false_iff_not, atI_0, atI_1, atI_2, atI_3, atI_4, Int.reduceToNat, Int.reduceLT, Int.reduceLE, Int.reduceNeg, Int.reducePow, cast_lit, upd_upd, Int.reduceAdd, Int.reduceMul, Int.reduceSub, Nat.reduceLT, Nat.reduceLeDiff, cmul_r, cdiv_r, tSl, tPart, tNoPart, rEq, rNe, scal_nn, scal_ii, scal_bb, scal_ss, scal_is, scal_si, V.ty.injEq, and_assoc, tyH_non, tyH_bl, tyH_int, tyH_str, tyH_ref, tyO_lst, tyO_IL, tyO_tup, itO_lst, itO_tup, itO_IL, Dw.rIxD, rLenI, rLenH, rLenTH, rLenQ, rLenB, rListI, Dw.rListS, rIntI, rIntB, rSumI, rIsiD, rIsX, tCallS, tMakeS, tMake, tMakeC, tMakeSC, tFld, sFld, HO.ins.injEq, HO.tup.injEq, cxOf_K, nox_K, tr_K, suite_K, rTupleI, rAllB, rAnyB, BL_inj, tChain, wOnly, wAs, wMany, rEqI, rNeI, Dw.rMax2, rMin2, Dw.rIsN, rIsNotN, rStrIn, rStrNotIn, not_true_eq_false, not_false_eq_true, reduceCtorEq, cl_bool, cl_int, cl_str, cl_list, cl_tuple, isB_NoneType_bool, isB_NoneType_int, isB_NoneType_str, isB_NoneType_list, isB_NoneType_tuple, isB_bool_bool, isB_bool_int, isB_bool_str, isB_bool_list, isB_bool_tuple, isB_int_bool, isB_int_int, isB_int_str, isB_int_list, isB_int_tuple, isB_str_bool, isB_str_int, isB_str_str, isB_str_list, isB_str_tuple, isB_list_bool, isB_list_int, isB_list_str, isB_list_list, isB_list_tuple, isB_tuple_bool, isB_tuple_int, isB_tuple_str, isB_tuple_list, isB_tuple_tuple, rSlCI, iRng3, iRev, gCons, gNil, iZip, iEnum, tLc_eq, tFor_eq, iRng1, iRng2, iList, iTup, rSetD, iKeys, tDNewK, Int.reducePow, Int.reduceNeg, iEz, tPar, tRevL, Dw.rSetL, Dw.rIxL, rIxE, iSeqA, rListTI]
      refine ⟨a, W, j2, rfl, s5 _ _ (s4 _ _ (s3 _ _ hA)), by omega, fun v j3 hv t6 H6 s6 n6 e6 => ?_, fun _ H6 s6 => kn _ (s3.trans (s4.trans (s5.trans s6)))⟩
      obtain ⟨nc, rfl, c1, c2, c3, c4⟩ := rd_canon hWb hv
      refine ⟨t6, _, rfl, .of e6, rfl, ?_⟩
      try simp only [tSeq, tAsg, tVar, tC, tOp, rI0, rI, tUn, rU, tIfS, tTest, tRet, tRetN, tDrop, tCB, tCons, tNil, tLst, tLstI, tTup, gName, tB, tAnd, tOr, tNot, tAndV, tOrV, tNotV, tIf, tNext, tBreak, tCont, gSub, tCall, tCallN, tAug, ipI, tBML, tBML0, isL_IL, isL_lst, L2.start, List.map_cons, List.map_nil, List.length_cons, List.length_nil, List.cons_append, List.nil_append, List.getElem?_cons_succ, List.getElem?_cons_zero, Option.some.injEq, exists_eq_left', exists_eq_left, exists_and_left, V.int.injEq, V.ref.injEq, V.bl.injEq, V.str.injEq, List.set_cons_zero, List.set_cons_succ, List.cons.injEq, and_true, true_and, Nat.reduceAdd, Nat.reduceSub, List.replicate_succ, List.replicate_zero, rIxI, rIxH, rIxTH, rSetI, rSetH, rCatI, rRepI, rSlI, rAppendI, rExtendI, decide_eq_true_eq, upd_same, IL_inj, HO.lst.injEq, toInts_cons, toInts_nil, Option.map_some, if_true, if_false, Bool.true_eq_false, Bool.false_eq_true, Bool.not_true, Bool.not_false, Bool.not_eq_true', decide_eq_false_iff_not, atI_0, atI_1, atI_2, atI_3, atI_4, Int.reduceToNat, Int.reduceLT, Int.reduceLE, Int.reduceNeg, Int.reducePow, cast_lit, upd_upd, Int.reduceAdd, Int.reduceMul, Int.reduceSub, Nat.reduceLT, Nat.reduceLeDiff, cmul_r, cdiv_r, tSl, tPart, tNoPart, rEq, rNe, scal_nn, scal_ii, scal_bb, scal_ss, scal_is, scal_si, V.ty.injEq, and_assoc, tyH_non, tyH_bl, tyH_int, tyH_str, tyH_ref, tyO_lst, tyO_IL, tyO_tup, itO_lst, itO_tup, itO_IL, Dw.rIxD, rLenI, rLenH, rLenTH, rLenQ, rLenB, rListI, Dw.rListS, rIntI, rIntB, rSumI, rIsiD, rIsX, tCallS, tMakeS, tMake, tMakeC, tMakeSC, tFld, sFld, HO.ins.injEq, HO.tup.injEq, cxOf_K, nox_K, tr_K, suite_K, rTupleI, rAllB, rAnyB, BL_inj, tChain, wOnly, wAs, wMany, rEqI, rNeI, Dw.rMax2, rMin2, Dw.rIsN, rIsNotN, rStrIn, rStrNotIn, not_true_eq_false, not_false_eq_true, reduceCtorEq, cl_bool, cl_int, cl_str, cl_list, cl_tuple, isB_NoneType_bool, isB_NoneType_int, isB_NoneType_str, isB_NoneType_list, isB_NoneType_tuple, isB_bool_bool, isB_bool_int, isB_bool_str, isB_bool_list, isB_bool_tuple, isB_int_bool, isB_int_int, isB_int_str, isB_int_list, isB_int_tuple, isB_str_bool, isB_str_int, isB_str_str, isB_str_list, isB_str_tuple, isB_list_bool, isB_list_int, isB_list_str, isB_list_list, isB_list_tuple, isB_tuple_bool, isB_tuple_int, isB_tuple_str, isB_tuple_list, isB_tuple_tuple, rSlCI, iRng3, iRev, gCons, gNil, iZip, iEnum, tLc_eq, tFor_eq, iRng1, iRng2, iList, iTup, rSetD, iKeys, tDNewK, Int.reducePow, Int.reduceNeg, iEz, tPar, tRevL, Dw.rSetL, Dw.rIxL, rIxE, iSeqA, rListTI]
      have sA := s3.trans (s4.trans (s5.trans s6))
      refine ⟨a, W, j3, oc, rfl, sA _ _ hA, fun d1 t7 u7 H7 s7 n7 e7 f7 => ?_, fun _ => kn _ sA⟩
      refine ⟨t7, _, rfl, .of e7, rfl, ?_⟩
      try simp only [tSeq, tAsg, tVar, tC, tOp, rI0, rI, tUn, rU, tIfS, tTest, tRet, tRetN, tDrop, tCB, tCons, tNil, tLst, tLstI, tTup, gName, tB, tAnd, tOr, tNot, tAndV, tOrV, tNotV, tIf, tNext, tBreak, tCont, gSub, tCall, tCallN, tAug, ipI, tBML, tBML0, isL_IL, isL_lst, L2.start, List.map_cons, List.map_nil, List.length_cons, List.length_nil, List.cons_append, List.nil_append, List.getElem?_cons_succ, List.getElem?_cons_zero, Option.some.injEq, exists_eq_left', exists_eq_left, exists_and_left, V.int.injEq, V.ref.injEq, V.bl.injEq, V.str.injEq, List.set_cons_zero, List.set_cons_succ, List.cons.injEq, and_true, true_and, Nat.reduceAdd, Nat.reduceSub, List.replicate_succ, List.replicate_zero, rIxI, rIxH, rIxTH, rSetI, rSetH, rCatI, rRepI, rSlI, rAppendI, rExtendI, decide_eq_true_eq, upd_same, IL_inj, HO.lst.injEq, toInts_cons, toInts_nil, Option.map_some, if_true, if_false, Bool.true_eq_false, Bool.false_eq_true, Bool.not_true, Bool.not_false, Bool.not_eq_true', decide_eq_false_iff_not, atI_0, atI_1, atI_2, atI_3, atI_4, Int.reduceToNat, Int.reduceLT, Int.reduceLE, Int.reduceNeg, Int.reducePow, cast_lit, upd_upd, Int.reduceAdd, Int.reduceMul, Int.reduceSub, Nat.reduceLT, Nat.reduceLeDiff, cmul_r, cdiv_r, tSl, tPart, tNoPart, rEq, rNe, scal_nn, scal_ii, scal_bb, scal_ss, scal_is, scal_si, V.ty.injEq, and_assoc, tyH_non, tyH_bl, tyH_int, tyH_str, tyH_ref, tyO_lst, tyO_IL, tyO_tup, itO_lst, itO_tup, itO_IL, Dw.rIxD, rLenI, rLenH, rLenTH, rLenQ, rLenB, rListI, Dw.rListS, rIntI, rIntB, rSumI, rIsiD, rIsX, tCallS, tMakeS, tMake, tMakeC, tMakeSC, tFld, sFld, HO.ins.injEq, HO.tup.injEq, cxOf_K, nox_K, tr_K, suite_K, rTupleI, rAllB, rAnyB, BL_inj, tChain, wOnly, wAs, wMany, rEqI, rNeI, Dw.rMax2, rMin2, Dw.rIsN, rIsNotN, rStrIn, rStrNotIn, not_true_eq_false, not_false_eq_true, reduceCtorEq, cl_bool, cl_int, cl_str, cl_list, cl_tuple, isB_NoneType_bool, isB_NoneType_int, isB_NoneType_str, isB_NoneType_list, isB_NoneType_tuple, isB_bool_bool, isB_bool_int, isB_bool_str, isB_bool_list, isB_bool_tuple, isB_int_bool, isB_int_int, isB_int_str, isB_int_list, isB_int_tuple, isB_str_bool, isB_str_int, isB_str_str, isB_str_list, isB_str_tuple, isB_list_bool, isB_list_int, isB_list_str, isB_list_list, isB_list_tuple, isB_tuple_bool, isB_tuple_int, isB_tuple_str, isB_tuple_list, isB_tuple_tuple, rSlCI, iRng3, iRev, gCons, gNil, iZip, iEnum, tLc_eq, tFor_eq, iRng1, iRng2, iList, iTup, rSetD, iKeys, tDNewK, Int.reducePow, Int.reduceNeg, iEz, tPar, tRevL, Dw.rSetL, Dw.rIxL, rIxE, iSeqA, rListTI]
      refine ⟨a, W, j3 + oc, nc, rfl, s7 _ _ (sA _ _ hA), fun d2 t8 u8 H8 s8 n8 e8 f8 => ?_, fun _ => kn _ (sA.trans s7)⟩
      refine ⟨t8, _, rfl, .of e8, rfl, ?_⟩
      try simp only [tSeq, tAsg, tVar, tC, tOp, rI0, rI, tUn, rU, tIfS, tTest, tRet, tRetN, tDrop, tCB, tCons, tNil, tLst, tLstI, tTup, gName, tB, tAnd, tOr, tNot, tAndV, tOrV, tNotV, tIf, tNext, tBreak, tCont, gSub, tCall, tCallN, tAug, ipI, tBML, tBML0, isL_IL, isL_lst, L2.start, List.map_cons, List.map_nil, List.length_cons, List.length_nil, List.cons_append, List.nil_append, List.getElem?_cons_succ, List.getElem?_cons_zero, Option.some.injEq, exists_eq_left', exists_eq_left, exists_and_left, V.int.injEq, V.ref.injEq, V.bl.injEq, V.str.injEq, List.set_cons_zero, List.set_cons_succ, List.cons.injEq, and_true, true_and, Nat.reduceAdd, Nat.reduceSub, List.replicate_succ, List.replicate_zero, rIxI, rIxH, rIxTH, rSetI, rSetH, rCatI, rRepI, rSlI, rAppendI, rExtendI, decide_eq_true_eq, upd_same, IL_inj, HO.lst.injEq, toInts_cons, toInts_nil, Option.map_some, if_true, if_false, Bool.true_eq_false, Bool.false_eq_true, Bool.not_true, Bool.not_false, Bool.not_eq_true', decide_eq_false_iff_not, atI_0, atI_1, atI_2, atI_3, atI_4, Int.reduceToNat, Int.reduceLT, Int.reduceLE, Int.reduceNeg, Int.reducePow, cast_lit, upd_upd, Int.reduceAdd, Int.reduceMul, Int.reduceSub, Nat.reduceLT, Nat.reduceLeDiff, cmul_r, cdiv_r, tSl, tPart, tNoPart, rEq, rNe, scal_nn, scal_ii, scal_bb, scal_ss, scal_is, scal_si, V.ty.injEq, and_assoc, tyH_non, tyH_bl, tyH_int, tyH_str, tyH_ref, tyO_lst, tyO_IL, tyO_tup, itO_lst, itO_tup, itO_IL, Dw.rIxD, rLenI, rLenH, rLenTH, rLenQ, rLenB, rListI, Dw.rListS, rIntI, rIntB, rSumI, rIsiD, rIsX, tCallS, tMakeS, tMake, tMakeC, tMakeSC, tFld, sFld, HO.ins.injEq, HO.tup.injEq, cxOf_K, nox_K, tr_K, suite_K, rTupleI, rAllB, rAnyB, BL_inj, tChain, wOnly, wAs, wMany, rEqI, rNeI, Dw.rMax2, rMin2, Dw.rIsN, rIsNotN, rStrIn, rStrNotIn, not_true_eq_false, not_false_eq_true, reduceCtorEq, cl_bool, cl_int, cl_str, cl_list, cl_tuple, isB_NoneType_bool, isB_NoneType_int, isB_NoneType_str, isB_NoneType_list, isB_NoneType_tuple, isB_bool_bool, isB_bool_int, isB_bool_str, isB_bool_list, isB_bool_tuple, isB_int_bool, isB_int_int, isB_int_str, isB_int_list, isB_int_tuple, isB_str_bool, isB_str_int, isB_str_str, isB_str_list, isB_str_tuple, isB_list_bool, isB_list_int, isB_list_str, isB_list_list, isB_list_tuple, isB_tuple_bool, isB_tuple_int, isB_tuple_str, isB_tuple_list, isB_tuple_tuple, rSlCI, iRng3, iRev, gCons, gNil, iZip, iEnum, tLc_eq, tFor_eq, iRng1, iRng2, iList, iTup, rSetD, iKeys, tDNewK, Int.reducePow, Int.reduceNeg, iEz, tPar, tRevL, Dw.rSetL, Dw.rIxL, rIxE, iSeqA, rListTI]
      have sB := s4.trans (s5.trans (s6.trans (s7.trans s8)))
      replace eY := sB _ _ eY
      refine ⟨by rw [eY]; rfl, line_le (by decide), fun u9 nu9 => ?_⟩
      have su9 := same_new nu9 (HO.tup [V.int (endP 0 done + ↑b), V.ref u7, V.ref u8])
      have eu9 : upd H8 u9 (HO.tup [V.int (endP 0 done + ↑b), V.ref u7, V.ref u8]) u9 = _ := upd_same
      generalize upd H8 u9 (HO.tup [V.int (endP 0 done + ↑b), V.ref u7, V.ref u8]) = H9 at su9 eu9  ⊢
      replace eY := su9 _ _ eY
      have hcx : ChAt H9 (.ref u9) (endP 0 done + b, (W.drop j3).take oc, (W.drop (j3 + oc)).take nc) := ⟨u9, u7, u8, rfl, eu9, su9 _ _ (s8 _ _ f7), su9 _ _ f8⟩
      have hC9 := (hC.same (sB.trans su9)).push hcx
      have hyl := hC.1
      refine ⟨D, ys, _, rfl, rfl, eY, line_lt (by omega), ?_⟩
      rw [hI]
      have lo : ((W.drop j3).take oc).length = oc := by rw [List.length_take, List.length_drop]; omega
      have ln : ((W.drop (j3 + oc)).take nc).length = nc := by rw [List.length_take, List.length_drop]; omega
      have he2 : endP 0 done + (b : Int) + (oc : Int) = endP 0 (done ++ [(endP 0 done + b, (W.drop j3).take oc, (W.drop (j3 + oc)).take nc)]) := by
        rw [endP_snoc]
        show _ = endP 0 done + b + (((W.drop j3).take oc).length : Int)
        rw [lo]
      rw [he2]
      refine ⟨Same.put (s3.trans (sB.trans su9)) nH _, done ++ [(endP 0 done + b, (W.drop j3).take oc, (W.drop (j3 + oc)).take nc)], j3 + oc + nc, _, _, _, _, _, _, _, upd_same, hC9.ups eY (fun _ e => by cases e), by rw [List.length_append, hdl]; rfl, hCh.snoc (by show endP 0 done ≤ endP 0 done + b; omega) (hWb.dt _ _) (hWb.dt _ _), d2, ?_, rfl⟩
      rw [pbZ_snoc]
      show W.take (j3 + oc + nc) = [80, 65] ++ digs N ++ (pbZ 0 done ++ (digs (endP 0 done + b - endP 0 done).toNat ++ digs ((W.drop j3).take oc).length ++ digs ((W.drop (j3 + oc)).take nc).length ++ (W.drop j3).take oc ++ (W.drop (j3 + oc)).take nc))
      rw [lo, ln, show (endP 0 done + (b : Int) - endP 0 done).toNat = b by omega, List.take_add, List.take_add, c1, b1, a1, hWj]
      simp only [List.append_assoc]
    · intro σ H3 h
      rw [hI] at h
      obtain ⟨s3, done, j, ys, y5, y6, y7, y8, y9, y10, eY, hC, hdl, hCh, hj, hWj, rfl⟩ := h
      try simp only [tSeq, tAsg, tVar, tC, tOp, rI0, rI, tUn, rU, tIfS, tTest, tRet, tRetN, tDrop, tCB, tCons, tNil, tLst, tLstI, tTup, gName, tB, tAnd, tOr, tNot, tAndV, tOrV, tNotV, tIf, tNext, tBreak, tCont, gSub, tCall, tCallN, tAug, ipI, tBML, tBML0, isL_IL, isL_lst, L2.start, List.map_cons, List.map_nil, List.length_cons, List.length_nil, List.cons_append, List.nil_append, List.getElem?_cons_succ, List.getElem?_cons_zero, Option.some.injEq, exists_eq_left', exists_eq_left, exists_and_left, V.int.injEq, V.ref.injEq, V.bl.injEq, V.str.injEq, List.set_cons_zero, List.set_cons_succ, List.cons.injEq, and_true, true_and, Nat.reduceAdd, Nat.reduceSub, List.replicate_succ, List.replicate_zero, rIxI, rIxH, rIxTH, rSetI, rSetH, rCatI, rRepI, rSlI, rAppendI, rExtendI, decide_eq_true_eq, upd_same, IL_inj, HO.lst.injEq, toInts_cons, toInts_nil, Option.map_some, if_true, if_false, Bool.true_eq_false, Bool.false_eq_true, Bool.not_true, Bool.not_false, Bool.not_eq_true', decide_eq_false_iff_not, atI_0, atI_1, atI_2, atI_3, atI_4, Int.reduceToNat, Int.reduceLT, Int.reduceLE, Int.reduceNeg, Int.reducePow, cast_lit, upd_upd, Int.reduceAdd, Int.reduceMul, Int.reduceSub, Nat.reduceLT, Nat.reduceLeDiff, cmul_r, cdiv_r, tSl, tPart, tNoPart, rEq, rNe, scal_nn, scal_ii, scal_bb, scal_ss, scal_is, scal_si, V.ty.injEq, and_assoc, tyH_non, tyH_bl, tyH_int, tyH_str, tyH_ref, tyO_lst, tyO_IL, tyO_tup, itO_lst, itO_tup, itO_IL, Dw.rIxD, rLenI, rLenH, rLenTH, rLenQ, rLenB, rListI, Dw.rListS, rIntI, rIntB, rSumI, rIsiD, rIsX, tCallS, tMakeS, tMake, tMakeC, tMakeSC, tFld, sFld, HO.ins.injEq, HO.tup.injEq, cxOf_K, nox_K, tr_K, suite_K, rTupleI, rAllB, rAnyB, BL_inj, tChain, wOnly, wAs, wMany, rEqI, rNeI, Dw.rMax2, rMin2, Dw.rIsN, rIsNotN, rStrIn, rStrNotIn, not_true_eq_false, not_false_eq_true, reduceCtorEq, cl_bool, cl_int, cl_str, cl_list, cl_tuple, isB_NoneType_bool, isB_NoneType_int, isB_NoneType_str, isB_NoneType_list, isB_NoneType_tuple, isB_bool_bool, isB_bool_int, isB_bool_str, isB_bool_list, isB_bool_tuple, isB_int_bool, isB_int_int, isB_int_str, isB_int_list, isB_int_tuple, isB_str_bool, isB_str_int, isB_str_str, isB_str_list, isB_str_tuple, isB_list_bool, isB_list_int, isB_list_str, isB_list_list, isB_list_tuple, isB_tuple_bool, isB_tuple_int, isB_tuple_str, isB_tuple_list, isB_tuple_tuple, rSlCI, iRng3, iRev, gCons, gNil, iZip, iEnum, tLc_eq, tFor_eq, iRng1, iRng2, iList, iTup, rSetD, iKeys, tDNewK, Int.reducePow, Int.reduceNeg, iEz, tPar, tRevL, Dw.rSetL, Dw.rIxL, rIxE, iSeqA, rListTI, s3 _ _ hA]
      by_cases c : (j : Int) = (W.length : Int)
      · refine absurd ⟨?_, hCh, by omega⟩ (hno done)
        rw [show j = W.length by omega, List.take_length] at hWj
        rw [hWj, ← hdl]
        rfl
      · rw [if_pos c]
        exact kn _ s3
end
section
variable {P : Program} {w : World} {K : PySem.W.Frag} {mg : Str → Option Value} {base : Heap} {A : Ad}
theorem chain_mem : ∀ {cs : List Ch} {e : Int}, Chain e cs → ∀ {c : Ch}, c ∈ cs → Bytes c.2.1 ∧ Bytes c.2.2
  | [], _, _, _, h => by cases h
  | d :: r, _, h, c, hc => by
    rcases List.mem_cons.mp hc with q | q
    · subst q
      exact ⟨h.2.1, h.2.2.1⟩
    · exact chain_mem h.2.2.2 q
def spRPatchG (C CE : Addr) : Sp := fun vs H Q E => ∃ (a : Addr) (W : List Int), vs = [.ref a] ∧ H a = some (IL W) ∧ Bytes W ∧ W.length ≤ 4000 ∧ ((∃ cs, Good W cs ∧ ∀ r H', Same H H' → H r = none → PatchAt C H' r cs → Q (.ref r) H') ∨ ((∀ cs, ¬ Good W cs) ∧ ∀ H', Same H H' → E (.ref CE) none H'))
theorem ok_read_patch (T : Tx K mg A) : FnOk P w K mg base (L2.CX P w) 4 A.f_read_patch A.d_read_patch ["values"] (spRPatchG A.c_Patch A.c_BadBytes) := by
  refine T.F_read_patch.okX sc_read_patch (fun vs H Q E h => ?_) (fun cdv A' outer s H vs Q E hr h => ?_)
  · obtain ⟨a, W, rfl, _⟩ := h
    rfl
  obtain ⟨a, W, rfl, hA, hVb, hVl, kk⟩ := h
  refine ⟨_, (pss_cons (ps_set (i := 1) sc_read_patch.nd rfl (Or.inl rfl) (pe_slice sl_listI (pv 0) po_none (po_some (pe_un un_neg pe_int))))
      (pss_cons (ps_if (PW.pt (pw_or (pt_not (pt_val (pe_call (ok_are_bytes T) (hr.mono (by decide)) rfl T.g_are_bytes T.F_are_bytes.kp T.b_are_bytes .nil pass0 (pa_cons (pv 0) pa_nil)))) (pw_or (pt_cmpR (op_neI hr.units) (pe_slice sl_listI (pv 1) po_none (po_some pe_int)) (pe_callTy (show CallR _ (.type "list") (rListTI K) from call_listTI) (by rfl) T.z_list (by decide +kernel) (pa_cons (pe_glob (v := .ref A.c_FIRST_BYTES) rfl T.ct_FIRST_BYTES rfl) pa_nil)) (nomark _)) (pw_or1 (pt_cmpR (op_neI hr.units) (pe_slice sl_listI (pv 0) (po_some (pe_un un_neg pe_int)) po_none) (pe_call (ok_two_bytes T) (hr.mono (by decide)) rfl T.g_two_bytes T.F_two_bytes.kp T.b_two_bytes .nil pass0 (pa_cons (pe_call (ok_crc T) (hr.mono (by decide)) rfl T.g_crc T.F_crc.kp T.b_crc .nil pass0 (pa_cons (pv 1) pa_nil)) pa_nil)) (nomark _)))))) (pss_one (ps_raise rfl (takes_of rfl rfl rfl rfl) (pmk_own PySem.F.excBase_ValueError T.x_BadBytes.x T.x_BadBytes.g T.x_BadBytes.k (raises_own T.x_BadBytes.b T.x_BadBytes.t) rfl))) pss_nil)
      (pss_one (L2H.ps_try_onlyX rfl rfl ⟨rfl, by decide, .inl T.x_InvalidPatch.g⟩ (fun hd => L2H.passesAt_of rfl hd) (takes_of rfl rfl rfl rfl) (fun W pn xe tk tk2 po => (pss_one (ps_ret (pe_makeSC conv_patchG T.mk_Patch (ok_Patchinit T) (hr.mono (by decide)) rfl T.gc_Patch T.b_Patchinit (fun σ => L2N.passAt tk σ) (pa_cons (pe_callS (ok_read_changes T) (hr.mono (by decide)) (by rfl) T.g_read_changes T.F_read_changes.kp T.b_read_changes (fun σ => passAt tk2 σ) (pa_cons (pv 1) pa_nil)) pa_nil))))) (fun a oe cls d pn hz hf tkS hot => (pss_one (L2H.ps_raiseH hot tkS (L2N.pmk_own PySem.F.excBase_ValueError T.x_BadBytes.x T.x_BadBytes.g T.x_BadBytes.k (raises_own T.x_BadBytes.b T.x_BadBytes.t) rfl)))))))), ?_⟩


  try simp only [tSeq, tAsg, tVar, tC, tOp, rI0, rI, tUn, rU, tIfS, tTest, tRet, tRetN, tDrop, tCB, tCons, tNil, tLst, tLstI, tTup, gName, tB, tAnd, tOr, tNot, tAndV, tOrV, tNotV, tIf, tNext, tBreak, tCont, gSub, tCall, tCallN, tAug, ipI, tBML, tBML0, isL_IL, isL_lst, L2.start, List.map_cons, List.map_nil, List.length_cons, List.length_nil, List.cons_append, List.nil_append, List.getElem?_cons_succ, List.getElem?_cons_zero, Option.some.injEq, exists_eq_left', exists_eq_left, exists_and_left, V.int.injEq, V.ref.injEq, V.bl.injEq, V.str.injEq, List.set_cons_zero, List.set_cons_succ, List.cons.injEq, and_true, true_and, Nat.reduceAdd, Nat.reduceSub, List.replicate_succ, List.replicate_zero, rIxI, rIxH, rIxTH, rSetI, rSetH, rCatI, rRepI, rSlI, rAppendI, rExtendI, decide_eq_true_eq, upd_same, IL_inj, HO.lst.injEq, toInts_cons, toInts_nil, Option.map_some, if_true, if_false, Bool.true_eq_false, Bool.false_eq_true, Bool.not_true, Bool.not_false, Bool.not_eq_true', decide_eq_false_iff_not, atI_0, atI_1, atI_2, atI_3, atI_4, Int.reduceToNat, Int.reduceLT, Int.reduceLE, Int.reduceNeg, Int.reducePow, cast_lit, upd_upd, Int.reduceAdd, Int.reduceMul, Int.reduceSub, Nat.reduceLT, Nat.reduceLeDiff, cmul_r, cdiv_r, tSl, tPart, tNoPart, rEq, rNe, scal_nn, scal_ii, scal_bb, scal_ss, scal_is, scal_si, V.ty.injEq, and_assoc, tyH_non, tyH_bl, tyH_int, tyH_str, tyH_ref, tyO_lst, tyO_IL, tyO_tup, itO_lst, itO_tup, itO_IL, Dw.rIxD, rLenI, rLenH, rLenTH, rLenQ, rLenB, rListI, Dw.rListS, rIntI, rIntB, rSumI, rIsiD, rIsX, tCallS, tMakeS, tMake, tMakeC, tMakeSC, tFld, sFld, HO.ins.injEq, HO.tup.injEq, cxOf_K, nox_K, tr_K, suite_K, rTupleI, rAllB, rAnyB, BL_inj, tChain, wOnly, wAs, wMany, rEqI, rNeI, Dw.rMax2, rMin2, Dw.rIsN, rIsNotN, rStrIn, rStrNotIn, not_true_eq_false, not_false_eq_true, reduceCtorEq, cl_bool, cl_int, cl_str, cl_list, cl_tuple, isB_NoneType_bool, isB_NoneType_int, isB_NoneType_str, isB_NoneType_list, isB_NoneType_tuple, isB_bool_bool, isB_bool_int, isB_bool_str, isB_bool_list, isB_bool_tuple, isB_int_bool, isB_int_int, isB_int_str, isB_int_list, isB_int_tuple, isB_str_bool, isB_str_int, isB_str_str, isB_str_list, isB_str_tuple, isB_list_bool, isB_list_int, isB_list_str, isB_list_list, isB_list_tuple, isB_tuple_bool, isB_tuple_int, isB_tuple_str, isB_tuple_list, isB_tuple_tuple, rSlCI, iRng3, iRev, gCons, gNil, iZip, iEnum, tLc_eq, tFor_eq, iRng1, iRng2, iList, iTup, rSetD, iKeys, tDNewK, Int.reducePow, Int.reduceNeg, iEz, tPar, tRevL, Dw.rSetL, Dw.rIxL, rIxE, iSeqA, rListTI, hA]
  rw [cutI_to2]
  intro u1 nu1
  have su1 := same_new nu1 (IL (W.take (W.length - 2)))
  have eu1 : upd H u1 (IL (W.take (W.length - 2))) u1 = _ := upd_same
  generalize upd H u1 (IL (W.take (W.length - 2))) = H1 at su1 eu1  ⊢
  have bp : Bytes (W.take (W.length - 2)) := fun z hz => hVb z (List.mem_of_mem_take hz)
  have lp : (W.take (W.length - 2)).length ≤ 4000 := by rw [List.length_take]; omega
  have ball : (W.all fun z => decide (0 ≤ z) && decide (z ≤ 255)) = true := List.all_eq_true.mpr fun z hz => by
    have := hVb z hz
    rw [decide_eq_true (show 0 ≤ z by omega), decide_eq_true (show z ≤ 255 by omega)]
    rfl
  refine ⟨a, _, rfl, .inl (.of (su1 _ _ hA)), by omega, fun H2 s2 => ⟨_, rfl, ?_⟩⟩
  rw [ball, if_neg (by decide)]
  have hA2 := s2 _ _ (su1 _ _ hA)
  have eB := s2 _ _ eu1
  refine ⟨_, eB, ?_⟩
  rw [show cutI (W.take (W.length - 2)) none (some 2) = (W.take (W.length - 2)).take 2 from cutI_up _ 2]
  intro u2 nu2
  have su2 := same_new nu2 (IL ((W.take (W.length - 2)).take 2))
  have eu2 : upd H2 u2 (IL ((W.take (W.length - 2)).take 2)) u2 = _ := upd_same
  generalize upd H2 u2 (IL ((W.take (W.length - 2)).take 2)) = H3 at su2 eu2  ⊢
  refine ⟨[80, 65], T.tt_FIRST_BYTES _, fun u3 nu3 => ?_⟩
  have su3 := same_new nu3 (IL [80, 65])
  have eu3 : upd H3 u3 (IL [80, 65]) u3 = _ := upd_same
  generalize upd H3 u3 (IL [80, 65]) = H4 at su3 eu3  ⊢
  refine ⟨_, su3 _ _ eu2, ?_⟩
  have hpl : ∀ cs : List Ch, W.take (W.length - 2) = bodyZ cs → Chain 0 cs → ∀ c ∈ cs, Bytes c.2.1 ∧ Bytes c.2.2 ∧ c.2.1.length ≤ 10000 ∧ c.2.2.length ≤ 10000 := fun cs hb hC c hc => by
    have hl := bodyZ_len cs
    rw [hb] at lp
    have h1 := pb_parts (e := 0) hc
    have h2 := chain_mem hC hc
    exact ⟨h2.1, h2.2, by omega, by omega⟩
  rcases kk with ⟨cs, hG, k⟩ | ⟨hno, kn⟩
  · have hb : W.take (W.length - 2) = bodyZ cs := by rw [hG.1]; exact bytesP_take cs
    have hd : W.drop (W.length - 2) = [crcZ (W.take (W.length - 2)) / 256, crcZ (W.take (W.length - 2)) % 256] := by rw [hG.1, bytesP_drop, bytesP_take]
    have h2 : (W.take (W.length - 2)).take 2 = [80, 65] := by rw [hb]; rfl
    have hC := hG.2.1.chain (Int.le_refl _)
    rw [if_neg (fun h => h h2)]
    replace hA2 := su2 _ _ hA2
    replace eB := su2 _ _ eB
    replace hA2 := su3 _ _ hA2
    replace eB := su3 _ _ eB
    refine ⟨_, hA2, ?_⟩
    rw [cutI_last2]
    intro u4 nu4
    have su4 := same_new nu4 (IL (W.drop (W.length - 2)))
    have eu4 : upd H4 u4 (IL (W.drop (W.length - 2))) u4 = _ := upd_same
    generalize upd H4 u4 (IL (W.drop (W.length - 2))) = H5 at su4 eu4  ⊢
    replace hA2 := su4 _ _ hA2
    replace eB := su4 _ _ eB
    refine ⟨u1, _, rfl, eB, bp, _, rfl, fun u5 nu5 => ?_⟩
    have su5 := same_new nu5 (IL [crcZ (W.take (W.length - 2)) / 256, crcZ (W.take (W.length - 2)) % 256])
    have eu5 : upd H5 u5 (IL [crcZ (W.take (W.length - 2)) / 256, crcZ (W.take (W.length - 2)) % 256]) u5 = _ := upd_same
    generalize upd H5 u5 (IL [crcZ (W.take (W.length - 2)) / 256, crcZ (W.take (W.length - 2)) % 256]) = H6 at su5 eu5  ⊢
    replace hA2 := su5 _ _ hA2
    replace eB := su5 _ _ eB
    replace eu4 := su5 _ _ eu4
    have sA := su1.trans (s2.trans (su2.trans (su3.trans (su4.trans su5))))
    refine ⟨u5, rfl, _, eu4, _, eu5, ?_⟩
    rw [if_neg (fun h => h hd)]
    refine ⟨u1, _, rfl, eB, bp, lp, h2, .inl ⟨cs, ⟨hb, hC, hG.2.2⟩, fun r xs H7 s7 n7 e7 hX => ?_⟩⟩
    exact ⟨r, xs, cs, rfl, e7, hX, hG.2.2, hpl cs hb hC, fun _ r2 H8 s8 n8 hR => k r2 H8 (sA.trans (s7.trans s8)) (same_none (sA.trans s7) n8) hR, fun hF => absurd hG.2.1 hF⟩
  by_cases c1 : (W.take (W.length - 2)).take 2 = [80, 65]
  · rw [if_neg (fun h => h c1)]
    replace hA2 := su2 _ _ hA2
    replace eB := su2 _ _ eB
    replace hA2 := su3 _ _ hA2
    replace eB := su3 _ _ eB
    refine ⟨_, hA2, ?_⟩
    rw [cutI_last2]
    intro u4 nu4
    have su4 := same_new nu4 (IL (W.drop (W.length - 2)))
    have eu4 : upd H4 u4 (IL (W.drop (W.length - 2))) u4 = _ := upd_same
    generalize upd H4 u4 (IL (W.drop (W.length - 2))) = H5 at su4 eu4  ⊢
    replace hA2 := su4 _ _ hA2
    replace eB := su4 _ _ eB
    refine ⟨u1, _, rfl, eB, bp, _, rfl, fun u5 nu5 => ?_⟩
    have su5 := same_new nu5 (IL [crcZ (W.take (W.length - 2)) / 256, crcZ (W.take (W.length - 2)) % 256])
    have eu5 : upd H5 u5 (IL [crcZ (W.take (W.length - 2)) / 256, crcZ (W.take (W.length - 2)) % 256]) u5 = _ := upd_same
    generalize upd H5 u5 (IL [crcZ (W.take (W.length - 2)) / 256, crcZ (W.take (W.length - 2)) % 256]) = H6 at su5 eu5  ⊢
    replace hA2 := su5 _ _ hA2
    replace eB := su5 _ _ eB
    replace eu4 := su5 _ _ eu4
    have sA := su1.trans (s2.trans (su2.trans (su3.trans (su4.trans su5))))
    refine ⟨u5, rfl, _, eu4, _, eu5, ?_⟩
    by_cases c2 : W.drop (W.length - 2) = [crcZ (W.take (W.length - 2)) / 256, crcZ (W.take (W.length - 2)) % 256]
    · rw [if_neg (fun h => h c2)]
      by_cases hex : ∃ cs, Chn (W.take (W.length - 2)) cs
      · obtain ⟨cs, hC⟩ := hex
        refine ⟨u1, _, rfl, eB, bp, lp, c1, .inl ⟨cs, hC, fun r xs H7 s7 n7 e7 hX => ?_⟩⟩
        exact ⟨r, xs, cs, rfl, e7, hX, hC.2.2, hpl cs hC.1 hC.2.1, fun hF => absurd ⟨bytesP_of hC.1 c2, hF, hC.2.2⟩ (hno cs), fun _ H8 s8 => ⟨true, T.x_InvalidPatch.e, fun _ ae hae => kn H8 (sA.trans (s7.trans s8)), (fun h => by cases h)⟩⟩
      · exact ⟨u1, _, rfl, eB, bp, lp, c1, .inr ⟨fun cs h => hex ⟨cs, h⟩, fun H7 s7 => ⟨T.exm_BadBytes_InvalidPatch, kn H7 (sA.trans s7)⟩⟩⟩
    · rw [if_pos c2]
      exact kn _ sA
  · rw [if_pos c1]
    exact kn _ (su1.trans (s2.trans (su2.trans su3)))
end
section
variable {P : Program} {w : World} {K : PySem.W.Frag} {mg : Str → Option Value} {base : Heap} {A : Ad}
def spPair : Sp := fun vs H Q _ => ∃ v : Int, vs = [.int v] ∧ ∀ D, H D = none → Q (.ref D) (upd H D (IL (pairZ v)))
theorem ok_law_pair (T : Tx K mg A) : FnOk P w K mg base CX0 1 A.f_law_pair A.d_law_pair ["number"] spPair := by
  refine T.F_law_pair.ok sc_law_pair (fun vs H Q E h => ?_) (fun cdv A' outer s H vs Q E hr h => ?_)
  · obtain ⟨v, rfl, _⟩ := h
    rfl
  obtain ⟨v, rfl, k⟩ := h
  refine ⟨_, (pss_one (ps_ret (pe_lstI (pa_cons (pe_op op_fdiv (pv 0) pe_int) (pa_cons (pe_op op_mod (pe_callTy call_intI (by rfl) T.z_int (by decide +kernel) (pa_cons (pv 0) pa_nil)) pe_int) pa_nil))))), ?_⟩
  try simp only [tSeq, tAsg, tVar, tC, tOp, rI0, rI, tUn, rU, tIfS, tTest, tRet, tRetN, tDrop, tCB, tCons, tNil, tLst, tLstI, tTup, gName, tB, tAnd, tOr, tNot, tAndV, tOrV, tNotV, tIf, tNext, tBreak, tCont, gSub, tCall, tCallN, tAug, ipI, tBML, tBML0, isL_IL, isL_lst, L2.start, List.map_cons, List.map_nil, List.length_cons, List.length_nil, List.cons_append, List.nil_append, List.getElem?_cons_succ, List.getElem?_cons_zero, Option.some.injEq, exists_eq_left', exists_eq_left, exists_and_left, V.int.injEq, V.ref.injEq, V.bl.injEq, V.str.injEq, List.set_cons_zero, List.set_cons_succ, List.cons.injEq, and_true, true_and, Nat.reduceAdd, Nat.reduceSub, List.replicate_succ, List.replicate_zero, rIxI, rIxH, rIxTH, rSetI, rSetH, rCatI, rRepI, rSlI, rAppendI, rExtendI, decide_eq_true_eq, upd_same, IL_inj, HO.lst.injEq, toInts_cons, toInts_nil, Option.map_some, if_true, if_false, Bool.true_eq_false, Bool.false_eq_true, Bool.not_true, Bool.not_false, Bool.not_eq_true', decide_eq_false_iff_not, atI_0, atI_1, atI_2, atI_3, atI_4, Int.reduceToNat, Int.reduceLT, Int.reduceLE, Int.reduceNeg, Int.reducePow, cast_lit, upd_upd, Int.reduceAdd, Int.reduceMul, Int.reduceSub, Nat.reduceLT, Nat.reduceLeDiff, cmul_r, cdiv_r, tSl, tPart, tNoPart, rEq, rNe, scal_nn, scal_ii, scal_bb, scal_ss, scal_is, scal_si, V.ty.injEq, and_assoc, tyH_non, tyH_bl, tyH_int, tyH_str, tyH_ref, tyO_lst, tyO_IL, tyO_tup, itO_lst, itO_tup, itO_IL, Dw.rIxD, rLenI, rLenH, rLenTH, rLenQ, rLenB, rListI, Dw.rListS, rIntI, rIntB, rSumI, rIsiD, rIsX, tCallS, tMakeS, tMake, tMakeC, tMakeSC, tFld, sFld, HO.ins.injEq, HO.tup.injEq, cxOf_K, nox_K, tr_K, suite_K, rTupleI, rAllB, rAnyB, BL_inj, tChain, wOnly, wAs, wMany, rEqI, rNeI, Dw.rMax2, rMin2, Dw.rIsN, rIsNotN, rStrIn, rStrNotIn, not_true_eq_false, not_false_eq_true, reduceCtorEq, cl_bool, cl_int, cl_str, cl_list, cl_tuple, isB_NoneType_bool, isB_NoneType_int, isB_NoneType_str, isB_NoneType_list, isB_NoneType_tuple, isB_bool_bool, isB_bool_int, isB_bool_str, isB_bool_list, isB_bool_tuple, isB_int_bool, isB_int_int, isB_int_str, isB_int_list, isB_int_tuple, isB_str_bool, isB_str_int, isB_str_str, isB_str_list, isB_str_tuple, isB_list_bool, isB_list_int, isB_list_str, isB_list_list, isB_list_tuple, isB_tuple_bool, isB_tuple_int, isB_tuple_str, isB_tuple_list, isB_tuple_tuple, rSlCI, iRng3, iRev, gCons, gNil, iZip, iEnum, tLc_eq, tFor_eq, iRng1, iRng2, iList, iTup, rSetD, iKeys, tDNewK, Int.reducePow, Int.reduceNeg, iEz, tPar, tRevL, Dw.rSetL, Dw.rIxL, rIxE, iSeqA, rListTI]
  exact ⟨line_le (by decide), k⟩
end
section
variable {P : Program} {w : World} {K : PySem.W.Frag} {mg : Str → Option Value} {base : Heap} {A : Ad}
theorem ok_law_spread (T : Tx K mg A) : FnOk P w K mg base CX0 1 A.f_law_spread A.d_law_spread ["cell"] spSpread := by
  refine T.F_law_spread.ok sc_law_spread (fun vs H Q E h => ?_) (fun cdv A' outer s H vs Q E hr h => ?_)
  · obtain ⟨n, rfl, _⟩ := h
    rfl
  obtain ⟨n, rfl, q⟩ := h
  refine ⟨_, (pss_cons (ps_set (i := 1) sc_law_spread.nd rfl (Or.inl rfl) (pe_op op_mod (pe_callTy call_intI (by rfl) T.z_int (by decide +kernel) (pa_cons (pv 0) pa_nil)) pe_int))
      (pss_cons (ps_set (i := 2) sc_law_spread.nd rfl (Or.inl rfl) pe_int)
      (pss_cons (ps_for PassesOwn.never rfl (pi_range1 rfl T.z_range (pa_cons pe_int pa_nil)) (pg_name (i := 3) sc_law_spread.nd rfl (Or.inl rfl))
        (pss_cons (ps_set (i := 1) sc_law_spread.nd rfl (Or.inl rfl) (pe_op op_mod (pe_callTy call_intI (by rfl) T.z_int (by decide +kernel) (pa_cons (pe_op op_add (pe_op op_add (pe_op op_mul (pv 1) pe_int) pe_int) (pv 3)) pa_nil)) pe_int))
      (pss_one (ps_set (i := 2) sc_law_spread.nd rfl (Or.inl rfl) (pe_op op_add (pe_op op_mul (pv 2) pe_int) (pv 1))))))
      (pss_one (ps_ret (pv 2)))))), ?_⟩
  try simp only [tSeq, tAsg, tVar, tC, tOp, rI0, rI, tUn, rU, tIfS, tTest, tRet, tRetN, tDrop, tCB, tCons, tNil, tLst, tLstI, tTup, gName, tB, tAnd, tOr, tNot, tAndV, tOrV, tNotV, tIf, tNext, tBreak, tCont, gSub, tCall, tCallN, tAug, ipI, tBML, tBML0, isL_IL, isL_lst, L2.start, List.map_cons, List.map_nil, List.length_cons, List.length_nil, List.cons_append, List.nil_append, List.getElem?_cons_succ, List.getElem?_cons_zero, Option.some.injEq, exists_eq_left', exists_eq_left, exists_and_left, V.int.injEq, V.ref.injEq, V.bl.injEq, V.str.injEq, List.set_cons_zero, List.set_cons_succ, List.cons.injEq, and_true, true_and, Nat.reduceAdd, Nat.reduceSub, List.replicate_succ, List.replicate_zero, rIxI, rIxH, rIxTH, rSetI, rSetH, rCatI, rRepI, rSlI, rAppendI, rExtendI, decide_eq_true_eq, upd_same, IL_inj, HO.lst.injEq, toInts_cons, toInts_nil, Option.map_some, if_true, if_false, Bool.true_eq_false, Bool.false_eq_true, Bool.not_true, Bool.not_false, Bool.not_eq_true', decide_eq_false_iff_not, atI_0, atI_1, atI_2, atI_3, atI_4, Int.reduceToNat, Int.reduceLT, Int.reduceLE, Int.reduceNeg, Int.reducePow, cast_lit, upd_upd, Int.reduceAdd, Int.reduceMul, Int.reduceSub, Nat.reduceLT, Nat.reduceLeDiff, cmul_r, cdiv_r, tSl, tPart, tNoPart, rEq, rNe, scal_nn, scal_ii, scal_bb, scal_ss, scal_is, scal_si, V.ty.injEq, and_assoc, tyH_non, tyH_bl, tyH_int, tyH_str, tyH_ref, tyO_lst, tyO_IL, tyO_tup, itO_lst, itO_tup, itO_IL, Dw.rIxD, rLenI, rLenH, rLenTH, rLenQ, rLenB, rListI, Dw.rListS, rIntI, rIntB, rSumI, rIsiD, rIsX, tCallS, tMakeS, tMake, tMakeC, tMakeSC, tFld, sFld, HO.ins.injEq, HO.tup.injEq, cxOf_K, nox_K, tr_K, suite_K, rTupleI, rAllB, rAnyB, BL_inj, tChain, wOnly, wAs, wMany, rEqI, rNeI, Dw.rMax2, rMin2, Dw.rIsN, rIsNotN, rStrIn, rStrNotIn, not_true_eq_false, not_false_eq_true, reduceCtorEq, cl_bool, cl_int, cl_str, cl_list, cl_tuple, isB_NoneType_bool, isB_NoneType_int, isB_NoneType_str, isB_NoneType_list, isB_NoneType_tuple, isB_bool_bool, isB_bool_int, isB_bool_str, isB_bool_list, isB_bool_tuple, isB_int_bool, isB_int_int, isB_int_str, isB_int_list, isB_int_tuple, isB_str_bool, isB_str_int, isB_str_str, isB_str_list, isB_str_tuple, isB_list_bool, isB_list_int, isB_list_str, isB_list_list, isB_list_tuple, isB_tuple_bool, isB_tuple_int, isB_tuple_str, isB_tuple_list, isB_tuple_tuple, iEz, tPar, tRevL, Dw.rSetL, Dw.rIxL, rIxE, iSeqA, rListTI]
  obtain ⟨I, hI⟩ : ∃ F : Nat → L2.St → Hp → Prop, F = (fun i σ H' => H' = H ∧ ∃ m wd : Int, ∃ y, σ = [some (V.int n), some (V.int m), some (V.int wd), y]) := ⟨_, rfl⟩
  refine ⟨4, rfl, by decide, by decide, for_range (lo := 0) (n := 4) I (by rw [hI]; exact ⟨rfl, n % 2147483647, 1, none, rfl⟩) ?_ ?_⟩
  · intro i σ H' hi h
    rw [hI] at h
    obtain ⟨rfl, m, wd, y, rfl⟩ := h
    try simp only [tSeq, tAsg, tVar, tC, tOp, rI0, rI, tUn, rU, tIfS, tTest, tRet, tRetN, tDrop, tCB, tCons, tNil, tLst, tLstI, tTup, gName, tB, tAnd, tOr, tNot, tAndV, tOrV, tNotV, tIf, tNext, tBreak, tCont, gSub, tCall, tCallN, tAug, ipI, tBML, tBML0, isL_IL, isL_lst, L2.start, List.map_cons, List.map_nil, List.length_cons, List.length_nil, List.cons_append, List.nil_append, List.getElem?_cons_succ, List.getElem?_cons_zero, Option.some.injEq, exists_eq_left', exists_eq_left, exists_and_left, V.int.injEq, V.ref.injEq, V.bl.injEq, V.str.injEq, List.set_cons_zero, List.set_cons_succ, List.cons.injEq, and_true, true_and, Nat.reduceAdd, Nat.reduceSub, List.replicate_succ, List.replicate_zero, rIxI, rIxH, rIxTH, rSetI, rSetH, rCatI, rRepI, rSlI, rAppendI, rExtendI, decide_eq_true_eq, upd_same, IL_inj, HO.lst.injEq, toInts_cons, toInts_nil, Option.map_some, if_true, if_false, Bool.true_eq_false, Bool.false_eq_true, Bool.not_true, Bool.not_false, Bool.not_eq_true', decide_eq_false_iff_not, atI_0, atI_1, atI_2, atI_3, atI_4, Int.reduceToNat, Int.reduceLT, Int.reduceLE, Int.reduceNeg, Int.reducePow, cast_lit, upd_upd, Int.reduceAdd, Int.reduceMul, Int.reduceSub, Nat.reduceLT, Nat.reduceLeDiff, cmul_r, cdiv_r, tSl, tPart, tNoPart, rEq, rNe, scal_nn, scal_ii, scal_bb, scal_ss, scal_is, scal_si, V.ty.injEq, and_assoc, tyH_non, tyH_bl, tyH_int, tyH_str, tyH_ref, tyO_lst, tyO_IL, tyO_tup, itO_lst, itO_tup, itO_IL, Dw.rIxD, rLenI, rLenH, rLenTH, rLenQ, rLenB, rListI, Dw.rListS, rIntI, rIntB, rSumI, rIsiD, rIsX, tCallS, tMakeS, tMake, tMakeC, tMakeSC, tFld, sFld, HO.ins.injEq, HO.tup.injEq, cxOf_K, nox_K, tr_K, suite_K, rTupleI, rAllB, rAnyB, BL_inj, tChain, wOnly, wAs, wMany, rEqI, rNeI, Dw.rMax2, rMin2, Dw.rIsN, rIsNotN, rStrIn, rStrNotIn, not_true_eq_false, not_false_eq_true, reduceCtorEq, cl_bool, cl_int, cl_str, cl_list, cl_tuple, isB_NoneType_bool, isB_NoneType_int, isB_NoneType_str, isB_NoneType_list, isB_NoneType_tuple, isB_bool_bool, isB_bool_int, isB_bool_str, isB_bool_list, isB_bool_tuple, isB_int_bool, isB_int_int, isB_int_str, isB_int_list, isB_int_tuple, isB_str_bool, isB_str_int, isB_str_str, isB_str_list, isB_str_tuple, isB_list_bool, isB_list_int, isB_list_str, isB_list_list, isB_list_tuple, isB_tuple_bool, isB_tuple_int, isB_tuple_str, isB_tuple_list, isB_tuple_tuple, iEz, tPar, tRevL, Dw.rSetL, Dw.rIxL, rIxE, iSeqA, rListTI]
    rw [hI]
    exact ⟨rfl, _, _, _, rfl⟩
  · intro σ H' h
    rw [hI] at h
    obtain ⟨rfl, m, wd, y, rfl⟩ := h
    try simp only [tSeq, tAsg, tVar, tC, tOp, rI0, rI, tUn, rU, tIfS, tTest, tRet, tRetN, tDrop, tCB, tCons, tNil, tLst, tLstI, tTup, gName, tB, tAnd, tOr, tNot, tAndV, tOrV, tNotV, tIf, tNext, tBreak, tCont, gSub, tCall, tCallN, tAug, ipI, tBML, tBML0, isL_IL, isL_lst, L2.start, List.map_cons, List.map_nil, List.length_cons, List.length_nil, List.cons_append, List.nil_append, List.getElem?_cons_succ, List.getElem?_cons_zero, Option.some.injEq, exists_eq_left', exists_eq_left, exists_and_left, V.int.injEq, V.ref.injEq, V.bl.injEq, V.str.injEq, List.set_cons_zero, List.set_cons_succ, List.cons.injEq, and_true, true_and, Nat.reduceAdd, Nat.reduceSub, List.replicate_succ, List.replicate_zero, rIxI, rIxH, rIxTH, rSetI, rSetH, rCatI, rRepI, rSlI, rAppendI, rExtendI, decide_eq_true_eq, upd_same, IL_inj, HO.lst.injEq, toInts_cons, toInts_nil, Option.map_some, if_true, if_false, Bool.true_eq_false, Bool.false_eq_true, Bool.not_true, Bool.not_false, Bool.not_eq_true', decide_eq_false_iff_not, atI_0, atI_1, atI_2, atI_3, atI_4, Int.reduceToNat, Int.reduceLT, Int.reduceLE, Int.reduceNeg, Int.reducePow, cast_lit, upd_upd, Int.reduceAdd, Int.reduceMul, Int.reduceSub, Nat.reduceLT, Nat.reduceLeDiff, cmul_r, cdiv_r, tSl, tPart, tNoPart, rEq, rNe, scal_nn, scal_ii, scal_bb, scal_ss, scal_is, scal_si, V.ty.injEq, and_assoc, tyH_non, tyH_bl, tyH_int, tyH_str, tyH_ref, tyO_lst, tyO_IL, tyO_tup, itO_lst, itO_tup, itO_IL, Dw.rIxD, rLenI, rLenH, rLenTH, rLenQ, rLenB, rListI, Dw.rListS, rIntI, rIntB, rSumI, rIsiD, rIsX, tCallS, tMakeS, tMake, tMakeC, tMakeSC, tFld, sFld, HO.ins.injEq, HO.tup.injEq, cxOf_K, nox_K, tr_K, suite_K, rTupleI, rAllB, rAnyB, BL_inj, tChain, wOnly, wAs, wMany, rEqI, rNeI, Dw.rMax2, rMin2, Dw.rIsN, rIsNotN, rStrIn, rStrNotIn, not_true_eq_false, not_false_eq_true, reduceCtorEq, cl_bool, cl_int, cl_str, cl_list, cl_tuple, isB_NoneType_bool, isB_NoneType_int, isB_NoneType_str, isB_NoneType_list, isB_NoneType_tuple, isB_bool_bool, isB_bool_int, isB_bool_str, isB_bool_list, isB_bool_tuple, isB_int_bool, isB_int_int, isB_int_str, isB_int_list, isB_int_tuple, isB_str_bool, isB_str_int, isB_str_str, isB_str_list, isB_str_tuple, isB_list_bool, isB_list_int, isB_list_str, isB_list_list, isB_list_tuple, isB_tuple_bool, isB_tuple_int, isB_tuple_str, isB_tuple_list, isB_tuple_tuple, iEz, tPar, tRevL, Dw.rSetL, Dw.rIxL, rIxE, iSeqA, rListTI]
    exact q _
theorem ok_law_draw (T : Tx K mg A) : FnOk P w K mg base CX0 2 A.f_law_draw A.d_law_draw ["pool", "many"] spDraw := by
  refine T.F_law_draw.ok sc_law_draw (fun vs H Q E h => ?_) (fun cdv A' outer s H vs Q E hr h => ?_)
  · obtain ⟨p, sc, m, rfl, _⟩ := h
    rfl
  obtain ⟨p, sc, m, rfl, hP, m0, m1, q⟩ := h
  refine ⟨_, (pss_cons (ps_if (PW.pt (pw_and (pt_cmpR op_le (pe_ix ix_listH (pv 0) pe_int (fun _ _ => rfl)) pe_int (nomark _)) (pw_and1 (pt_cmpR op_lt (pe_ix ix_listH (pv 0) pe_int (fun _ _ => rfl)) (pe_callB call_lenI (by rfl) T.z_len (by decide +kernel) (pa_cons (pe_ix ix_listH (pv 0) pe_int (fun _ _ => rfl)) pa_nil)) (nomark _))))) (pss_cons (ps_set (i := 2) sc_law_draw.nd rfl (Or.inl rfl) (pe_ix ix_listI (pe_ix ix_listH (pv 0) pe_int (fun _ _ => rfl)) (pe_ix ix_listH (pv 0) pe_int (fun _ _ => rfl)) (fun _ _ => rfl)))
      (pss_cons (ps_asg (pe_op op_add (pe_ix ix_listH (pv 0) pe_int (fun _ _ => rfl)) pe_int) (pg_sub (pv 0) pe_int set_listH))
      (pss_cons (ps_asg (pv 2) (pg_sub (pv 0) pe_int set_listH))
      (pss_one (ps_if (pt_cmpR op_lt (pv 2) pe_int (nomark _)) (pss_one (ps_asg (pe_call (ok_law_spread T) (hr.mono (by decide)) rfl T.g_law_spread T.F_law_spread.kp T.b_law_spread .nil pass0 (pa_cons (pv 2) pa_nil)) (pg_sub (pv 0) pe_int set_listH))) pss_nil))))) pss_nil)
      (pss_cons (ps_asg (pe_op op_add (pe_ix ix_listH (pv 0) pe_int (fun _ _ => rfl)) pe_int) (pg_sub (pv 0) pe_int set_listH))
      (pss_cons (ps_if (pt_cmpR op_le (pe_ix ix_listH (pv 0) pe_int (fun _ _ => rfl)) pe_int (nomark _)) (pss_cons (ps_set (i := 3) sc_law_draw.nd rfl (Or.inl rfl) (pe_op op_mod (pe_callTy call_intI (by rfl) T.z_int (by decide +kernel) (pa_cons (pe_op op_add (pe_op op_add (pe_op op_mul (pe_ix ix_listH (pv 0) pe_int (fun _ _ => rfl)) pe_int) (pe_op op_mul (pe_ix ix_listH (pv 0) pe_int (fun _ _ => rfl)) pe_int)) pe_int) pa_nil)) pe_int))
      (pss_cons (ps_set (i := 3) sc_law_draw.nd rfl (Or.inl rfl) (pe_op op_mod (pe_callTy call_intI (by rfl) T.z_int (by decide +kernel) (pa_cons (pe_op op_add (pe_op op_mul (pv 3) pe_int) (pe_ix ix_listH (pv 0) pe_int (fun _ _ => rfl))) pa_nil)) pe_int))
      (pss_one (ps_ret (pe_op op_mod (pe_op op_fdiv (pv 3) pe_int) (pv 1)))))) pss_nil)
      (pss_cons (ps_set (i := 4) sc_law_draw.nd rfl (Or.inl rfl) (pe_op op_mod (pe_callTy call_intI (by rfl) T.z_int (by decide +kernel) (pa_cons (pe_ix ix_listH (pv 0) pe_int (fun _ _ => rfl)) pa_nil)) (pv 1)))
      (pss_cons (ps_asg (pe_op op_fdiv (pe_ix ix_listH (pv 0) pe_int (fun _ _ => rfl)) (pv 1)) (pg_sub (pv 0) pe_int set_listH))
      (pss_one (ps_ret (pv 4)))))))), ?_⟩
  obtain ⟨ns, a, b, c, d, h1, h2, h3, h4⟩ := hP
  have hd : CDiv b m ∧ ∀ x, CDiv x m := ⟨⟨m0, m1⟩, fun x => ⟨m0, m1⟩⟩
  have fin : ∀ (x a' b' c' : Int), 0 ≤ a' → Q (V.int (x % m)) (upd H p (HO.lst [V.ref sc, V.int a', V.int b', V.int c', V.int d])) := fun x a' b' c' ha =>
    q _ _ (Int.emod_nonneg _ (by omega)) (Int.emod_lt_of_pos _ m0) (Pool.put h1 h2 ha h4) (sameB_upd _)
  unfold PoolL at h1
  have hne := pool_ne h1 h2
  have h2' : H sc = some (IL ns) := h2
  try simp only [tSeq, tAsg, tVar, tC, tOp, rI0, rI, tUn, rU, tIfS, tTest, tRet, tRetN, tDrop, tCB, tCons, tNil, tLst, tLstI, tTup, gName, tB, tAnd, tOr, tNot, tAndV, tOrV, tNotV, tIf, tNext, tBreak, tCont, gSub, tCall, tCallN, tAug, ipI, tBML, tBML0, isL_IL, isL_lst, L2.start, List.map_cons, List.map_nil, List.length_cons, List.length_nil, List.cons_append, List.nil_append, List.getElem?_cons_succ, List.getElem?_cons_zero, Option.some.injEq, exists_eq_left', exists_eq_left, exists_and_left, V.int.injEq, V.ref.injEq, V.bl.injEq, V.str.injEq, List.set_cons_zero, List.set_cons_succ, List.cons.injEq, and_true, true_and, Nat.reduceAdd, Nat.reduceSub, List.replicate_succ, List.replicate_zero, rIxI, rIxH, rIxTH, rSetI, rSetH, rCatI, rRepI, rSlI, rAppendI, rExtendI, decide_eq_true_eq, upd_same, IL_inj, HO.lst.injEq, toInts_cons, toInts_nil, Option.map_some, if_true, if_false, Bool.true_eq_false, Bool.false_eq_true, Bool.not_true, Bool.not_false, Bool.not_eq_true', decide_eq_false_iff_not, atI_0, atI_1, atI_2, atI_3, atI_4, Int.reduceToNat, Int.reduceLT, Int.reduceLE, Int.reduceNeg, Int.reducePow, cast_lit, upd_upd, Int.reduceAdd, Int.reduceMul, Int.reduceSub, Nat.reduceLT, Nat.reduceLeDiff, cmul_r, cdiv_r, tSl, tPart, tNoPart, rEq, rNe, scal_nn, scal_ii, scal_bb, scal_ss, scal_is, scal_si, V.ty.injEq, and_assoc, tyH_non, tyH_bl, tyH_int, tyH_str, tyH_ref, tyO_lst, tyO_IL, tyO_tup, itO_lst, itO_tup, itO_IL, Dw.rIxD, rLenI, rLenH, rLenTH, rLenQ, rLenB, rListI, Dw.rListS, rIntI, rIntB, rSumI, rIsiD, rIsX, tCallS, tMakeS, tMake, tMakeC, tMakeSC, tFld, sFld, HO.ins.injEq, HO.tup.injEq, cxOf_K, nox_K, tr_K, suite_K, rTupleI, rAllB, rAnyB, BL_inj, tChain, wOnly, wAs, wMany, rEqI, rNeI, Dw.rMax2, rMin2, Dw.rIsN, rIsNotN, rStrIn, rStrNotIn, not_true_eq_false, not_false_eq_true, reduceCtorEq, cl_bool, cl_int, cl_str, cl_list, cl_tuple, isB_NoneType_bool, isB_NoneType_int, isB_NoneType_str, isB_NoneType_list, isB_NoneType_tuple, isB_bool_bool, isB_bool_int, isB_bool_str, isB_bool_list, isB_bool_tuple, isB_int_bool, isB_int_int, isB_int_str, isB_int_list, isB_int_tuple, isB_str_bool, isB_str_int, isB_str_str, isB_str_list, isB_str_tuple, isB_list_bool, isB_list_int, isB_list_str, isB_list_list, isB_list_tuple, isB_tuple_bool, isB_tuple_int, isB_tuple_str, isB_tuple_list, isB_tuple_tuple, iEz, tPar, tRevL, Dw.rSetL, Dw.rIxL, rIxE, iSeqA, rListTI, h1, h2', upd_ne hne, spSpread]
  by_cases c1 : b ≤ 0
  · rw [if_pos c1]
    by_cases c2 : a < (ns.length : Int)
    · rw [if_pos c2]
      refine ⟨h3, c2, ?_⟩
      by_cases c3 : ns.getD a.toNat 0 < 1000000000000000000
      · rw [if_pos c3]
        intro x
        by_cases c4 : x ≤ 0
        · rw [if_pos c4]
          exact ⟨m0, fin _ _ _ _ (by omega)⟩
        · rw [if_neg c4]
          exact ⟨m0, hd.2 _, fin _ _ _ _ (by omega)⟩
      · rw [if_neg c3]
        by_cases c4 : ns.getD a.toNat 0 ≤ 0
        · rw [if_pos c4]
          exact ⟨m0, fin _ _ _ _ (by omega)⟩
        · rw [if_neg c4]
          exact ⟨m0, hd.2 _, fin _ _ _ _ (by omega)⟩
    · rw [if_neg c2, if_pos c1]
      exact ⟨m0, fin _ _ _ _ h3⟩
  · rw [if_neg c1, if_neg c1]
    exact ⟨m0, hd.2 _, fin _ _ _ _ h3⟩
theorem ok_law_pool (T : Tx K mg A) : FnOk P w K mg base CX0 1 A.f_law_pool A.d_law_pool ["script"] (spPool K) := by
  refine T.F_law_pool.ok sc_law_pool (fun vs H Q E h => ?_) (fun cdv A' outer s H vs Q E hr h => ?_)
  · obtain ⟨a, ns, rfl, _⟩ := h
    rfl
  obtain ⟨a, ns, rfl, hS, hl, q⟩ := h
  refine ⟨_, (pss_cons (ps_set (i := 1) sc_law_pool.nd rfl (Or.inl rfl) pe_int)
      (pss_cons (ps_for PassesOwn.never rfl (pi_list (pe_slice sl_listS (pv 0) po_none (po_some pe_int))) (pg_name (i := 2) sc_law_pool.nd rfl (Or.inl rfl))
        (pss_one (ps_set (i := 1) sc_law_pool.nd rfl (Or.inl rfl) (pe_op op_mod (pe_callTy call_intI (by rfl) T.z_int (by decide +kernel) (pa_cons (pe_op op_add (pe_op op_mul (pv 1) pe_int) (pv 2)) pa_nil)) pe_int))))
      (pss_one (ps_ret (pe_lst (pa_cons (pe_callTy call_listS (by rfl) T.z_list (by decide +kernel) (pa_cons (pv 0) pa_nil)) (pa_cons pe_int (pa_cons pe_int (pa_cons pe_int (pa_cons (pv 1) pa_nil)))))))))), ?_⟩
  try simp only [tSeq, tAsg, tVar, tC, tOp, rI0, rI, tUn, rU, tIfS, tTest, tRet, tRetN, tDrop, tCB, tCons, tNil, tLst, tLstI, tTup, gName, tB, tAnd, tOr, tNot, tAndV, tOrV, tNotV, tIf, tNext, tBreak, tCont, gSub, tCall, tCallN, tAug, ipI, tBML, tBML0, isL_IL, isL_lst, L2.start, List.map_cons, List.map_nil, List.length_cons, List.length_nil, List.cons_append, List.nil_append, List.getElem?_cons_succ, List.getElem?_cons_zero, Option.some.injEq, exists_eq_left', exists_eq_left, exists_and_left, V.int.injEq, V.ref.injEq, V.bl.injEq, V.str.injEq, List.set_cons_zero, List.set_cons_succ, List.cons.injEq, and_true, true_and, Nat.reduceAdd, Nat.reduceSub, List.replicate_succ, List.replicate_zero, rIxI, rIxH, rIxTH, rSetI, rSetH, rCatI, rRepI, rSlI, rAppendI, rExtendI, decide_eq_true_eq, upd_same, IL_inj, HO.lst.injEq, toInts_cons, toInts_nil, Option.map_some, if_true, if_false, Bool.true_eq_false, Bool.false_eq_true, Bool.not_true, Bool.not_false, Bool.not_eq_true', decide_eq_false_iff_not, atI_0, atI_1, atI_2, atI_3, atI_4, Int.reduceToNat, Int.reduceLT, Int.reduceLE, Int.reduceNeg, Int.reducePow, cast_lit, upd_upd, Int.reduceAdd, Int.reduceMul, Int.reduceSub, Nat.reduceLT, Nat.reduceLeDiff, cmul_r, cdiv_r, tSl, tPart, tNoPart, rEq, rNe, scal_nn, scal_ii, scal_bb, scal_ss, scal_is, scal_si, V.ty.injEq, and_assoc, tyH_non, tyH_bl, tyH_int, tyH_str, tyH_ref, tyO_lst, tyO_IL, tyO_tup, itO_lst, itO_tup, itO_IL, Dw.rIxD, rLenI, rLenH, rLenTH, rLenQ, rLenB, rListI, Dw.rListS, rIntI, rIntB, rSumI, rIsiD, rIsX, tCallS, tMakeS, tMake, tMakeC, tMakeSC, tFld, sFld, HO.ins.injEq, HO.tup.injEq, cxOf_K, nox_K, tr_K, suite_K, rTupleI, rAllB, rAnyB, BL_inj, tChain, wOnly, wAs, wMany, rEqI, rNeI, Dw.rMax2, rMin2, Dw.rIsN, rIsNotN, rStrIn, rStrNotIn, not_true_eq_false, not_false_eq_true, reduceCtorEq, cl_bool, cl_int, cl_str, cl_list, cl_tuple, isB_NoneType_bool, isB_NoneType_int, isB_NoneType_str, isB_NoneType_list, isB_NoneType_tuple, isB_bool_bool, isB_bool_int, isB_bool_str, isB_bool_list, isB_bool_tuple, isB_int_bool, isB_int_int, isB_int_str, isB_int_list, isB_int_tuple, isB_str_bool, isB_str_int, isB_str_str, isB_str_list, isB_str_tuple, isB_list_bool, isB_list_int, isB_list_str, isB_list_list, isB_list_tuple, isB_tuple_bool, isB_tuple_int, isB_tuple_str, isB_tuple_list, isB_tuple_tuple, iEz, tPar, tRevL, Dw.rSetL, Dw.rIxL, rIxE, iSeqA, rListTI]
  refine ⟨_, rfl, _, rfl, a, ns, rfl, hS, fun p hp => ?_⟩
  obtain ⟨I, hI⟩ : ∃ F : Nat → L2.St → Hp → Prop, F = (fun i σ H' => H' = upd H p (IL (cutI ns none (some 63))) ∧ ∃ x y, σ = [some (V.ref a), some (V.int x), y]) := ⟨_, rfl⟩
  refine ⟨p, rfl, ⟨_, .of upd_same⟩, for_list (xs := (cutI ns none (some 63)).map V.int) I (by rw [hI]; exact ⟨rfl, 7, none, rfl⟩) ?_ ?_ ?_⟩
  · intro i σ H' hi h
    rw [hI] at h
    obtain ⟨rfl, _⟩ := h
    exact .of upd_same
  · intro i v σ H' hi h
    rw [hI] at h
    obtain ⟨rfl, x, y, rfl⟩ := h
    obtain ⟨z, rfl⟩ : ∃ z : Int, v = V.int z := by
      rw [List.getElem?_map] at hi
      cases e : (cutI ns none (some 63))[i]? with
      | none => rw [e] at hi; cases hi
      | some z => rw [e] at hi; exact ⟨z, (Option.some.inj hi).symm⟩
    try simp only [tSeq, tAsg, tVar, tC, tOp, rI0, rI, tUn, rU, tIfS, tTest, tRet, tRetN, tDrop, tCB, tCons, tNil, tLst, tLstI, tTup, gName, tB, tAnd, tOr, tNot, tAndV, tOrV, tNotV, tIf, tNext, tBreak, tCont, gSub, tCall, tCallN, tAug, ipI, tBML, tBML0, isL_IL, isL_lst, L2.start, List.map_cons, List.map_nil, List.length_cons, List.length_nil, List.cons_append, List.nil_append, List.getElem?_cons_succ, List.getElem?_cons_zero, Option.some.injEq, exists_eq_left', exists_eq_left, exists_and_left, V.int.injEq, V.ref.injEq, V.bl.injEq, V.str.injEq, List.set_cons_zero, List.set_cons_succ, List.cons.injEq, and_true, true_and, Nat.reduceAdd, Nat.reduceSub, List.replicate_succ, List.replicate_zero, rIxI, rIxH, rIxTH, rSetI, rSetH, rCatI, rRepI, rSlI, rAppendI, rExtendI, decide_eq_true_eq, upd_same, IL_inj, HO.lst.injEq, toInts_cons, toInts_nil, Option.map_some, if_true, if_false, Bool.true_eq_false, Bool.false_eq_true, Bool.not_true, Bool.not_false, Bool.not_eq_true', decide_eq_false_iff_not, atI_0, atI_1, atI_2, atI_3, atI_4, Int.reduceToNat, Int.reduceLT, Int.reduceLE, Int.reduceNeg, Int.reducePow, cast_lit, upd_upd, Int.reduceAdd, Int.reduceMul, Int.reduceSub, Nat.reduceLT, Nat.reduceLeDiff, cmul_r, cdiv_r, tSl, tPart, tNoPart, rEq, rNe, scal_nn, scal_ii, scal_bb, scal_ss, scal_is, scal_si, V.ty.injEq, and_assoc, tyH_non, tyH_bl, tyH_int, tyH_str, tyH_ref, tyO_lst, tyO_IL, tyO_tup, itO_lst, itO_tup, itO_IL, Dw.rIxD, rLenI, rLenH, rLenTH, rLenQ, rLenB, rListI, Dw.rListS, rIntI, rIntB, rSumI, rIsiD, rIsX, tCallS, tMakeS, tMake, tMakeC, tMakeSC, tFld, sFld, HO.ins.injEq, HO.tup.injEq, cxOf_K, nox_K, tr_K, suite_K, rTupleI, rAllB, rAnyB, BL_inj, tChain, wOnly, wAs, wMany, rEqI, rNeI, Dw.rMax2, rMin2, Dw.rIsN, rIsNotN, rStrIn, rStrNotIn, not_true_eq_false, not_false_eq_true, reduceCtorEq, cl_bool, cl_int, cl_str, cl_list, cl_tuple, isB_NoneType_bool, isB_NoneType_int, isB_NoneType_str, isB_NoneType_list, isB_NoneType_tuple, isB_bool_bool, isB_bool_int, isB_bool_str, isB_bool_list, isB_bool_tuple, isB_int_bool, isB_int_int, isB_int_str, isB_int_list, isB_int_tuple, isB_str_bool, isB_str_int, isB_str_str, isB_str_list, isB_str_tuple, isB_list_bool, isB_list_int, isB_list_str, isB_list_list, isB_list_tuple, isB_tuple_bool, isB_tuple_int, isB_tuple_str, isB_tuple_list, isB_tuple_tuple, iEz, tPar, tRevL, Dw.rSetL, Dw.rIxL, rIxE, iSeqA, rListTI]
    rw [hI]
    exact ⟨rfl, _, _, rfl⟩
  · intro σ H' h
    rw [hI] at h
    obtain ⟨rfl, x, y, rfl⟩ := h
    try simp only [tSeq, tAsg, tVar, tC, tOp, rI0, rI, tUn, rU, tIfS, tTest, tRet, tRetN, tDrop, tCB, tCons, tNil, tLst, tLstI, tTup, gName, tB, tAnd, tOr, tNot, tAndV, tOrV, tNotV, tIf, tNext, tBreak, tCont, gSub, tCall, tCallN, tAug, ipI, tBML, tBML0, isL_IL, isL_lst, L2.start, List.map_cons, List.map_nil, List.length_cons, List.length_nil, List.cons_append, List.nil_append, List.getElem?_cons_succ, List.getElem?_cons_zero, Option.some.injEq, exists_eq_left', exists_eq_left, exists_and_left, V.int.injEq, V.ref.injEq, V.bl.injEq, V.str.injEq, List.set_cons_zero, List.set_cons_succ, List.cons.injEq, and_true, true_and, Nat.reduceAdd, Nat.reduceSub, List.replicate_succ, List.replicate_zero, rIxI, rIxH, rIxTH, rSetI, rSetH, rCatI, rRepI, rSlI, rAppendI, rExtendI, decide_eq_true_eq, upd_same, IL_inj, HO.lst.injEq, toInts_cons, toInts_nil, Option.map_some, if_true, if_false, Bool.true_eq_false, Bool.false_eq_true, Bool.not_true, Bool.not_false, Bool.not_eq_true', decide_eq_false_iff_not, atI_0, atI_1, atI_2, atI_3, atI_4, Int.reduceToNat, Int.reduceLT, Int.reduceLE, Int.reduceNeg, Int.reducePow, cast_lit, upd_upd, Int.reduceAdd, Int.reduceMul, Int.reduceSub, Nat.reduceLT, Nat.reduceLeDiff, cmul_r, cdiv_r, tSl, tPart, tNoPart, rEq, rNe, scal_nn, scal_ii, scal_bb, scal_ss, scal_is, scal_si, V.ty.injEq, and_assoc, tyH_non, tyH_bl, tyH_int, tyH_str, tyH_ref, tyO_lst, tyO_IL, tyO_tup, itO_lst, itO_tup, itO_IL, Dw.rIxD, rLenI, rLenH, rLenTH, rLenQ, rLenB, rListI, Dw.rListS, rIntI, rIntB, rSumI, rIsiD, rIsX, tCallS, tMakeS, tMake, tMakeC, tMakeSC, tFld, sFld, HO.ins.injEq, HO.tup.injEq, cxOf_K, nox_K, tr_K, suite_K, rTupleI, rAllB, rAnyB, BL_inj, tChain, wOnly, wAs, wMany, rEqI, rNeI, Dw.rMax2, rMin2, Dw.rIsN, rIsNotN, rStrIn, rStrNotIn, not_true_eq_false, not_false_eq_true, reduceCtorEq, cl_bool, cl_int, cl_str, cl_list, cl_tuple, isB_NoneType_bool, isB_NoneType_int, isB_NoneType_str, isB_NoneType_list, isB_NoneType_tuple, isB_bool_bool, isB_bool_int, isB_bool_str, isB_bool_list, isB_bool_tuple, isB_int_bool, isB_int_int, isB_int_str, isB_int_list, isB_int_tuple, isB_str_bool, isB_str_int, isB_str_str, isB_str_list, isB_str_tuple, isB_list_bool, isB_list_int, isB_list_str, isB_list_list, isB_list_tuple, isB_tuple_bool, isB_tuple_int, isB_tuple_str, isB_tuple_list, isB_tuple_tuple, iEz, tPar, tRevL, Dw.rSetL, Dw.rIxL, rIxE, iSeqA, rListTI]
    refine ⟨ns, (same_new hp _).seq hS, fun l hl' => ⟨line_le (by decide), fun r hr' => ?_⟩⟩
    have hlp : p ≠ l := ne_of_none upd_same hl'
    have hrl : l ≠ r := ne_of_none upd_same hr'
    refine q r l _ ((same_new hp _).trans ((same_new hl' _).trans (same_new hr' _))) (same_none (same_new hp _) (same_none (same_new hl' _) hr')) (same_none (same_new hp _) hl') ⟨ns, 0, 0, 0, x, upd_same, ?_, Int.le_refl 0, hl⟩
    rw [upd_ne hrl, upd_same]
    rfl
end
section
variable {P : Program} {w : World} {K : PySem.W.Frag} {mg : Str → Option Value} {base : Heap} {A : Ad}
theorem ok_law_same_ (T : Tx K mg A) : ∀ n, FnOk P w K mg base CX0 n A.f_law_same A.d_law_same ["actual", "due"] (spSame n)
  | 0 => none_fn fun vs H Q E ⟨_, _, _, _, _, _, h, _⟩ => by omega
  | n + 1 => by
    have ih := ok_law_same_ T n
    refine T.F_law_same.ok sc_law_same (fun vs H Q E h => ?_) (fun cdv A' outer s H vs Q E hr h => ?_)
    · obtain ⟨x, y, d, rfl, _⟩ := h
      rfl
    obtain ⟨x, y, d, rfl, hx, hy, hd, hs, q⟩ := h
    refine ⟨_, (pss_cons (ps_if (PW.pt (pw_or (pt_val (pe_callB call_isiD (by rfl) T.z_isinstance (by decide +kernel) (pa_cons (pv 1) (pa_cons (pe_bltn (by rfl) T.z_tuple (v := .ty "tuple") (by decide +kernel) rfl) pa_nil)))) (pw_or1 (pt_val (pe_callB call_isiD (by rfl) T.z_isinstance (by decide +kernel) (pa_cons (pv 1) (pa_cons (pe_bltn (by rfl) T.z_list (v := .ty "list") (by decide +kernel) rfl) pa_nil))))))) (pss_cons (ps_if (PW.pt (pw_or (pt_cmpR op_ne (pe_callB call_isiD (by rfl) T.z_isinstance (by decide +kernel) (pa_cons (pv 1) (pa_cons (pe_bltn (by rfl) T.z_tuple (v := .ty "tuple") (by decide +kernel) rfl) pa_nil))) (pe_callB call_isiD (by rfl) T.z_isinstance (by decide +kernel) (pa_cons (pv 0) (pa_cons (pe_bltn (by rfl) T.z_tuple (v := .ty "tuple") (by decide +kernel) rfl) pa_nil))) (nomark _)) (pw_or1 (pt_cmpR op_ne (pe_callB call_isiD (by rfl) T.z_isinstance (by decide +kernel) (pa_cons (pv 1) (pa_cons (pe_bltn (by rfl) T.z_list (v := .ty "list") (by decide +kernel) rfl) pa_nil))) (pe_callB call_isiD (by rfl) T.z_isinstance (by decide +kernel) (pa_cons (pv 0) (pa_cons (pe_bltn (by rfl) T.z_list (v := .ty "list") (by decide +kernel) rfl) pa_nil))) (nomark _))))) (pss_one (ps_ret pe_bl)) pss_nil)
      (pss_cons (ps_if (pt_cmpR op_ne (pe_callB call_lenQ (by rfl) T.z_len (by decide +kernel) (pa_cons (pv 0) pa_nil)) (pe_callB call_lenB (by rfl) T.z_len (by decide +kernel) (pa_cons (pv 1) pa_nil)) (nomark _)) (pss_one (ps_ret pe_bl)) pss_nil)
      (pss_cons (ps_for PassesOwn.never rfl (pi_range1 rfl T.z_range (pa_cons (pe_callB call_lenB (by rfl) T.z_len (by decide +kernel) (pa_cons (pv 1) pa_nil)) pa_nil)) (pg_name (i := 2) sc_law_same.nd rfl (Or.inl rfl))
        (pss_one (ps_if (pt_not (pt_val (pe_call ih hr rfl T.g_law_same T.F_law_same.kp T.b_law_same .nil pass0 (pa_cons (pe_ix ix_seqD (pv 0) (pv 2) (fun _ _ => rfl)) (pa_cons (pe_ix ix_seqD (pv 1) (pv 2) (fun _ _ => rfl)) pa_nil))))) (pss_one (ps_ret pe_bl)) pss_nil)))
      (pss_one (ps_ret pe_bl))))) pss_nil)
      (pss_cons (ps_if (pt_cmpR op_isNone (pv 1) pe_non (nomark _)) (pss_one (ps_ret (pe_cmpR op_isNone (pv 0) pe_non (nomark _)))) pss_nil)
      (pss_cons (ps_if (pt_val (pe_callB call_isiD (by rfl) T.z_isinstance (by decide +kernel) (pa_cons (pv 1) (pa_cons (pe_bltn (by rfl) T.z_bool (v := .ty "bool") (by decide +kernel) rfl) pa_nil)))) (pss_one (ps_ret (pe_and (pe_callB call_isiD (by rfl) T.z_isinstance (by decide +kernel) (pa_cons (pv 0) (pa_cons (pe_bltn (by rfl) T.z_bool (v := .ty "bool") (by decide +kernel) rfl) pa_nil))) (pe_one (pe_cmpR op_eq (pv 0) (pv 1) (nomark _)))))) pss_nil)
      (pss_cons (ps_if (pt_val (pe_callB call_isiD (by rfl) T.z_isinstance (by decide +kernel) (pa_cons (pv 1) (pa_cons (pe_bltn (by rfl) T.z_int (v := .ty "int") (by decide +kernel) rfl) pa_nil)))) (pss_one (ps_ret (pe_and (pe_callB call_isiD (by rfl) T.z_isinstance (by decide +kernel) (pa_cons (pv 0) (pa_cons (pe_bltn (by rfl) T.z_int (v := .ty "int") (by decide +kernel) rfl) pa_nil))) (pe_and (pe_not (pe_callB call_isiD (by rfl) T.z_isinstance (by decide +kernel) (pa_cons (pv 0) (pa_cons (pe_bltn (by rfl) T.z_bool (v := .ty "bool") (by decide +kernel) rfl) pa_nil)))) (pe_one (pe_cmpR op_eq (pv 0) (pv 1) (nomark _))))))) pss_nil)
      (pss_one (ps_ret (pe_and (pe_callB call_isiD (by rfl) T.z_isinstance (by decide +kernel) (pa_cons (pv 0) (pa_cons (pe_bltn (by rfl) T.z_str (v := .ty "str") (by decide +kernel) rfl) pa_nil))) (pe_one (pe_cmpR op_eq (pv 0) (pv 1) (nomark _)))))))))), ?_⟩
    cases d with
    | none => 
      cases hx; cases hy
      try simp only [tSeq, tAsg, tVar, tC, tOp, rI0, rI, tUn, rU, tIfS, tTest, tRet, tRetN, tDrop, tCB, tCons, tNil, tLst, tLstI, tTup, gName, tB, tAnd, tOr, tNot, tAndV, tOrV, tNotV, tIf, tNext, tBreak, tCont, gSub, tCall, tCallN, tAug, ipI, tBML, tBML0, isL_IL, isL_lst, L2.start, List.map_cons, List.map_nil, List.length_cons, List.length_nil, List.cons_append, List.nil_append, List.getElem?_cons_succ, List.getElem?_cons_zero, Option.some.injEq, exists_eq_left', exists_eq_left, exists_and_left, V.int.injEq, V.ref.injEq, V.bl.injEq, V.str.injEq, List.set_cons_zero, List.set_cons_succ, List.cons.injEq, and_true, true_and, Nat.reduceAdd, Nat.reduceSub, List.replicate_succ, List.replicate_zero, rIxI, rIxH, rIxTH, rSetI, rSetH, rCatI, rRepI, rSlI, rAppendI, rExtendI, decide_eq_true_eq, upd_same, IL_inj, HO.lst.injEq, toInts_cons, toInts_nil, Option.map_some, if_true, if_false, Bool.true_eq_false, Bool.false_eq_true, Bool.not_true, Bool.not_false, Bool.not_eq_true', decide_eq_false_iff_not, atI_0, atI_1, atI_2, atI_3, atI_4, Int.reduceToNat, Int.reduceLT, Int.reduceLE, Int.reduceNeg, Int.reducePow, cast_lit, upd_upd, Int.reduceAdd, Int.reduceMul, Int.reduceSub, Nat.reduceLT, Nat.reduceLeDiff, cmul_r, cdiv_r, tSl, tPart, tNoPart, rEq, rNe, scal_nn, scal_ii, scal_bb, scal_ss, scal_is, scal_si, V.ty.injEq, and_assoc, tyH_non, tyH_bl, tyH_int, tyH_str, tyH_ref, tyO_lst, tyO_IL, tyO_tup, itO_lst, itO_tup, itO_IL, Dw.rIxD, rLenI, rLenH, rLenTH, rLenQ, rLenB, rListI, Dw.rListS, rIntI, rIntB, rSumI, rIsiD, rIsX, tCallS, tMakeS, tMake, tMakeC, tMakeSC, tFld, sFld, HO.ins.injEq, HO.tup.injEq, cxOf_K, nox_K, tr_K, suite_K, rTupleI, rAllB, rAnyB, BL_inj, tChain, wOnly, wAs, wMany, rEqI, rNeI, Dw.rMax2, rMin2, Dw.rIsN, rIsNotN, rStrIn, rStrNotIn, not_true_eq_false, not_false_eq_true, reduceCtorEq, cl_bool, cl_int, cl_str, cl_list, cl_tuple, isB_NoneType_bool, isB_NoneType_int, isB_NoneType_str, isB_NoneType_list, isB_NoneType_tuple, isB_bool_bool, isB_bool_int, isB_bool_str, isB_bool_list, isB_bool_tuple, isB_int_bool, isB_int_int, isB_int_str, isB_int_list, isB_int_tuple, isB_str_bool, isB_str_int, isB_str_str, isB_str_list, isB_str_tuple, isB_list_bool, isB_list_int, isB_list_str, isB_list_list, isB_list_tuple, isB_tuple_bool, isB_tuple_int, isB_tuple_str, isB_tuple_list, isB_tuple_tuple, iEz, tPar, tRevL, Dw.rSetL, Dw.rIxL, rIxE, iSeqA, rListTI, decide_true]
      exact q
    | int i =>
      cases hx; cases hy
      try simp only [tSeq, tAsg, tVar, tC, tOp, rI0, rI, tUn, rU, tIfS, tTest, tRet, tRetN, tDrop, tCB, tCons, tNil, tLst, tLstI, tTup, gName, tB, tAnd, tOr, tNot, tAndV, tOrV, tNotV, tIf, tNext, tBreak, tCont, gSub, tCall, tCallN, tAug, ipI, tBML, tBML0, isL_IL, isL_lst, L2.start, List.map_cons, List.map_nil, List.length_cons, List.length_nil, List.cons_append, List.nil_append, List.getElem?_cons_succ, List.getElem?_cons_zero, Option.some.injEq, exists_eq_left', exists_eq_left, exists_and_left, V.int.injEq, V.ref.injEq, V.bl.injEq, V.str.injEq, List.set_cons_zero, List.set_cons_succ, List.cons.injEq, and_true, true_and, Nat.reduceAdd, Nat.reduceSub, List.replicate_succ, List.replicate_zero, rIxI, rIxH, rIxTH, rSetI, rSetH, rCatI, rRepI, rSlI, rAppendI, rExtendI, decide_eq_true_eq, upd_same, IL_inj, HO.lst.injEq, toInts_cons, toInts_nil, Option.map_some, if_true, if_false, Bool.true_eq_false, Bool.false_eq_true, Bool.not_true, Bool.not_false, Bool.not_eq_true', decide_eq_false_iff_not, atI_0, atI_1, atI_2, atI_3, atI_4, Int.reduceToNat, Int.reduceLT, Int.reduceLE, Int.reduceNeg, Int.reducePow, cast_lit, upd_upd, Int.reduceAdd, Int.reduceMul, Int.reduceSub, Nat.reduceLT, Nat.reduceLeDiff, cmul_r, cdiv_r, tSl, tPart, tNoPart, rEq, rNe, scal_nn, scal_ii, scal_bb, scal_ss, scal_is, scal_si, V.ty.injEq, and_assoc, tyH_non, tyH_bl, tyH_int, tyH_str, tyH_ref, tyO_lst, tyO_IL, tyO_tup, itO_lst, itO_tup, itO_IL, Dw.rIxD, rLenI, rLenH, rLenTH, rLenQ, rLenB, rListI, Dw.rListS, rIntI, rIntB, rSumI, rIsiD, rIsX, tCallS, tMakeS, tMake, tMakeC, tMakeSC, tFld, sFld, HO.ins.injEq, HO.tup.injEq, cxOf_K, nox_K, tr_K, suite_K, rTupleI, rAllB, rAnyB, BL_inj, tChain, wOnly, wAs, wMany, rEqI, rNeI, Dw.rMax2, rMin2, Dw.rIsN, rIsNotN, rStrIn, rStrNotIn, not_true_eq_false, not_false_eq_true, reduceCtorEq, cl_bool, cl_int, cl_str, cl_list, cl_tuple, isB_NoneType_bool, isB_NoneType_int, isB_NoneType_str, isB_NoneType_list, isB_NoneType_tuple, isB_bool_bool, isB_bool_int, isB_bool_str, isB_bool_list, isB_bool_tuple, isB_int_bool, isB_int_int, isB_int_str, isB_int_list, isB_int_tuple, isB_str_bool, isB_str_int, isB_str_str, isB_str_list, isB_str_tuple, isB_list_bool, isB_list_int, isB_list_str, isB_list_list, isB_list_tuple, isB_tuple_bool, isB_tuple_int, isB_tuple_str, isB_tuple_list, isB_tuple_tuple, iEz, tPar, tRevL, Dw.rSetL, Dw.rIxL, rIxE, iSeqA, rListTI, decide_true]
      exact q
    | bool i =>
      cases hx; cases hy
      try simp only [tSeq, tAsg, tVar, tC, tOp, rI0, rI, tUn, rU, tIfS, tTest, tRet, tRetN, tDrop, tCB, tCons, tNil, tLst, tLstI, tTup, gName, tB, tAnd, tOr, tNot, tAndV, tOrV, tNotV, tIf, tNext, tBreak, tCont, gSub, tCall, tCallN, tAug, ipI, tBML, tBML0, isL_IL, isL_lst, L2.start, List.map_cons, List.map_nil, List.length_cons, List.length_nil, List.cons_append, List.nil_append, List.getElem?_cons_succ, List.getElem?_cons_zero, Option.some.injEq, exists_eq_left', exists_eq_left, exists_and_left, V.int.injEq, V.ref.injEq, V.bl.injEq, V.str.injEq, List.set_cons_zero, List.set_cons_succ, List.cons.injEq, and_true, true_and, Nat.reduceAdd, Nat.reduceSub, List.replicate_succ, List.replicate_zero, rIxI, rIxH, rIxTH, rSetI, rSetH, rCatI, rRepI, rSlI, rAppendI, rExtendI, decide_eq_true_eq, upd_same, IL_inj, HO.lst.injEq, toInts_cons, toInts_nil, Option.map_some, if_true, if_false, Bool.true_eq_false, Bool.false_eq_true, Bool.not_true, Bool.not_false, Bool.not_eq_true', decide_eq_false_iff_not, atI_0, atI_1, atI_2, atI_3, atI_4, Int.reduceToNat, Int.reduceLT, Int.reduceLE, Int.reduceNeg, Int.reducePow, cast_lit, upd_upd, Int.reduceAdd, Int.reduceMul, Int.reduceSub, Nat.reduceLT, Nat.reduceLeDiff, cmul_r, cdiv_r, tSl, tPart, tNoPart, rEq, rNe, scal_nn, scal_ii, scal_bb, scal_ss, scal_is, scal_si, V.ty.injEq, and_assoc, tyH_non, tyH_bl, tyH_int, tyH_str, tyH_ref, tyO_lst, tyO_IL, tyO_tup, itO_lst, itO_tup, itO_IL, Dw.rIxD, rLenI, rLenH, rLenTH, rLenQ, rLenB, rListI, Dw.rListS, rIntI, rIntB, rSumI, rIsiD, rIsX, tCallS, tMakeS, tMake, tMakeC, tMakeSC, tFld, sFld, HO.ins.injEq, HO.tup.injEq, cxOf_K, nox_K, tr_K, suite_K, rTupleI, rAllB, rAnyB, BL_inj, tChain, wOnly, wAs, wMany, rEqI, rNeI, Dw.rMax2, rMin2, Dw.rIsN, rIsNotN, rStrIn, rStrNotIn, not_true_eq_false, not_false_eq_true, reduceCtorEq, cl_bool, cl_int, cl_str, cl_list, cl_tuple, isB_NoneType_bool, isB_NoneType_int, isB_NoneType_str, isB_NoneType_list, isB_NoneType_tuple, isB_bool_bool, isB_bool_int, isB_bool_str, isB_bool_list, isB_bool_tuple, isB_int_bool, isB_int_int, isB_int_str, isB_int_list, isB_int_tuple, isB_str_bool, isB_str_int, isB_str_str, isB_str_list, isB_str_tuple, isB_list_bool, isB_list_int, isB_list_str, isB_list_list, isB_list_tuple, isB_tuple_bool, isB_tuple_int, isB_tuple_str, isB_tuple_list, isB_tuple_tuple, iEz, tPar, tRevL, Dw.rSetL, Dw.rIxL, rIxE, iSeqA, rListTI, decide_true]
      exact q
    | str i =>
      cases hx; cases hy
      try simp only [tSeq, tAsg, tVar, tC, tOp, rI0, rI, tUn, rU, tIfS, tTest, tRet, tRetN, tDrop, tCB, tCons, tNil, tLst, tLstI, tTup, gName, tB, tAnd, tOr, tNot, tAndV, tOrV, tNotV, tIf, tNext, tBreak, tCont, gSub, tCall, tCallN, tAug, ipI, tBML, tBML0, isL_IL, isL_lst, L2.start, List.map_cons, List.map_nil, List.length_cons, List.length_nil, List.cons_append, List.nil_append, List.getElem?_cons_succ, List.getElem?_cons_zero, Option.some.injEq, exists_eq_left', exists_eq_left, exists_and_left, V.int.injEq, V.ref.injEq, V.bl.injEq, V.str.injEq, List.set_cons_zero, List.set_cons_succ, List.cons.injEq, and_true, true_and, Nat.reduceAdd, Nat.reduceSub, List.replicate_succ, List.replicate_zero, rIxI, rIxH, rIxTH, rSetI, rSetH, rCatI, rRepI, rSlI, rAppendI, rExtendI, decide_eq_true_eq, upd_same, IL_inj, HO.lst.injEq, toInts_cons, toInts_nil, Option.map_some, if_true, if_false, Bool.true_eq_false, Bool.false_eq_true, Bool.not_true, Bool.not_false, Bool.not_eq_true', decide_eq_false_iff_not, atI_0, atI_1, atI_2, atI_3, atI_4, Int.reduceToNat, Int.reduceLT, Int.reduceLE, Int.reduceNeg, Int.reducePow, cast_lit, upd_upd, Int.reduceAdd, Int.reduceMul, Int.reduceSub, Nat.reduceLT, Nat.reduceLeDiff, cmul_r, cdiv_r, tSl, tPart, tNoPart, rEq, rNe, scal_nn, scal_ii, scal_bb, scal_ss, scal_is, scal_si, V.ty.injEq, and_assoc, tyH_non, tyH_bl, tyH_int, tyH_str, tyH_ref, tyO_lst, tyO_IL, tyO_tup, itO_lst, itO_tup, itO_IL, Dw.rIxD, rLenI, rLenH, rLenTH, rLenQ, rLenB, rListI, Dw.rListS, rIntI, rIntB, rSumI, rIsiD, rIsX, tCallS, tMakeS, tMake, tMakeC, tMakeSC, tFld, sFld, HO.ins.injEq, HO.tup.injEq, cxOf_K, nox_K, tr_K, suite_K, rTupleI, rAllB, rAnyB, BL_inj, tChain, wOnly, wAs, wMany, rEqI, rNeI, Dw.rMax2, rMin2, Dw.rIsN, rIsNotN, rStrIn, rStrNotIn, not_true_eq_false, not_false_eq_true, reduceCtorEq, cl_bool, cl_int, cl_str, cl_list, cl_tuple, isB_NoneType_bool, isB_NoneType_int, isB_NoneType_str, isB_NoneType_list, isB_NoneType_tuple, isB_bool_bool, isB_bool_int, isB_bool_str, isB_bool_list, isB_bool_tuple, isB_int_bool, isB_int_int, isB_int_str, isB_int_list, isB_int_tuple, isB_str_bool, isB_str_int, isB_str_str, isB_str_list, isB_str_tuple, isB_list_bool, isB_list_int, isB_list_str, isB_list_list, isB_list_tuple, isB_tuple_bool, isB_tuple_int, isB_tuple_str, isB_tuple_list, isB_tuple_tuple, iEz, tPar, tRevL, Dw.rSetL, Dw.rIxL, rIxE, iSeqA, rListTI, decide_true]
      exact q
    | dict _ => cases hx
    | list ds =>
      cases hx with | lst hx1 hx2 =>
      cases hy with | lst hy1 hy2 =>
      rename_i a xs b ys
      have ex := dtAll_len hx2
      have ey := dtAll_len hy2
      have exy : ¬ ¬ (xs.length : Int) = ys.length := fun z => z (by rw [ex, ey])
      simp only [SeqAt.shaped, Bool.and_eq_true, PyData.depth, PyData.canLay0] at hs hd
      have hs2 : PyData.depthAll ds + 1 ≤ 64 := of_decide_eq_true hs.2
      obtain ⟨I, hI⟩ : ∃ F : Nat → L2.St → Hp → Prop, F = (fun i σ H' => H' = H ∧ ∃ y, σ = [some (V.ref a), some (V.ref b), y]) := ⟨_, rfl⟩
      try simp only [tSeq, tAsg, tVar, tC, tOp, rI0, rI, tUn, rU, tIfS, tTest, tRet, tRetN, tDrop, tCB, tCons, tNil, tLst, tLstI, tTup, gName, tB, tAnd, tOr, tNot, tAndV, tOrV, tNotV, tIf, tNext, tBreak, tCont, gSub, tCall, tCallN, tAug, ipI, tBML, tBML0, isL_IL, isL_lst, L2.start, List.map_cons, List.map_nil, List.length_cons, List.length_nil, List.cons_append, List.nil_append, List.getElem?_cons_succ, List.getElem?_cons_zero, Option.some.injEq, exists_eq_left', exists_eq_left, exists_and_left, V.int.injEq, V.ref.injEq, V.bl.injEq, V.str.injEq, List.set_cons_zero, List.set_cons_succ, List.cons.injEq, and_true, true_and, Nat.reduceAdd, Nat.reduceSub, List.replicate_succ, List.replicate_zero, rIxI, rIxH, rIxTH, rSetI, rSetH, rCatI, rRepI, rSlI, rAppendI, rExtendI, decide_eq_true_eq, upd_same, IL_inj, HO.lst.injEq, toInts_cons, toInts_nil, Option.map_some, if_true, if_false, Bool.true_eq_false, Bool.false_eq_true, Bool.not_true, Bool.not_false, Bool.not_eq_true', decide_eq_false_iff_not, atI_0, atI_1, atI_2, atI_3, atI_4, Int.reduceToNat, Int.reduceLT, Int.reduceLE, Int.reduceNeg, Int.reducePow, cast_lit, upd_upd, Int.reduceAdd, Int.reduceMul, Int.reduceSub, Nat.reduceLT, Nat.reduceLeDiff, cmul_r, cdiv_r, tSl, tPart, tNoPart, rEq, rNe, scal_nn, scal_ii, scal_bb, scal_ss, scal_is, scal_si, V.ty.injEq, and_assoc, tyH_non, tyH_bl, tyH_int, tyH_str, tyH_ref, tyO_lst, tyO_IL, tyO_tup, itO_lst, itO_tup, itO_IL, Dw.rIxD, rLenI, rLenH, rLenTH, rLenQ, rLenB, rListI, Dw.rListS, rIntI, rIntB, rSumI, rIsiD, rIsX, tCallS, tMakeS, tMake, tMakeC, tMakeSC, tFld, sFld, HO.ins.injEq, HO.tup.injEq, cxOf_K, nox_K, tr_K, suite_K, rTupleI, rAllB, rAnyB, BL_inj, tChain, wOnly, wAs, wMany, rEqI, rNeI, Dw.rMax2, rMin2, Dw.rIsN, rIsNotN, rStrIn, rStrNotIn, not_true_eq_false, not_false_eq_true, reduceCtorEq, cl_bool, cl_int, cl_str, cl_list, cl_tuple, isB_NoneType_bool, isB_NoneType_int, isB_NoneType_str, isB_NoneType_list, isB_NoneType_tuple, isB_bool_bool, isB_bool_int, isB_bool_str, isB_bool_list, isB_bool_tuple, isB_int_bool, isB_int_int, isB_int_str, isB_int_list, isB_int_tuple, isB_str_bool, isB_str_int, isB_str_str, isB_str_list, isB_str_tuple, isB_list_bool, isB_list_int, isB_list_str, isB_list_list, isB_list_tuple, isB_tuple_bool, isB_tuple_int, isB_tuple_str, isB_tuple_list, isB_tuple_tuple, iEz, tPar, tRevL, Dw.rSetL, Dw.rIxL, rIxE, iSeqA, rListTI, decide_true, hx1, hy1]
      intro hz
      rw [if_neg exy]
      refine ⟨_, rfl, b, _, rfl, by rw [hy1]; rfl, fun _ => ⟨ys.length, rfl, by omega, by omega, for_range (lo := 0) (n := ((ys.length : Nat) : Int).toNat) I (by rw [hI]; exact ⟨rfl, none, rfl⟩) ?_ ?_⟩⟩
      · intro i σ H' hi h
        rw [hI] at h
        obtain ⟨rfl, y, rfl⟩ := h
        obtain ⟨x1, d1, g1, g2, g3⟩ := dtAll_get (i := i) hx2 (by omega)
        obtain ⟨x2, d2, k1, k2, k3⟩ := dtAll_get (i := i) hy2 (by omega)
        have ed : d2 = d1 := Option.some.inj (k2.symm.trans g2)
        subst ed
        have e0 : (0 : Int) + (i : Int) = ((i : Nat) : Int) := by omega
        rw [e0]
        try simp only [tSeq, tAsg, tVar, tC, tOp, rI0, rI, tUn, rU, tIfS, tTest, tRet, tRetN, tDrop, tCB, tCons, tNil, tLst, tLstI, tTup, gName, tB, tAnd, tOr, tNot, tAndV, tOrV, tNotV, tIf, tNext, tBreak, tCont, gSub, tCall, tCallN, tAug, ipI, tBML, tBML0, isL_IL, isL_lst, L2.start, List.map_cons, List.map_nil, List.length_cons, List.length_nil, List.cons_append, List.nil_append, List.getElem?_cons_succ, List.getElem?_cons_zero, Option.some.injEq, exists_eq_left', exists_eq_left, exists_and_left, V.int.injEq, V.ref.injEq, V.bl.injEq, V.str.injEq, List.set_cons_zero, List.set_cons_succ, List.cons.injEq, and_true, true_and, Nat.reduceAdd, Nat.reduceSub, List.replicate_succ, List.replicate_zero, rIxI, rIxH, rIxTH, rSetI, rSetH, rCatI, rRepI, rSlI, rAppendI, rExtendI, decide_eq_true_eq, upd_same, IL_inj, HO.lst.injEq, toInts_cons, toInts_nil, Option.map_some, if_true, if_false, Bool.true_eq_false, Bool.false_eq_true, Bool.not_true, Bool.not_false, Bool.not_eq_true', decide_eq_false_iff_not, atI_0, atI_1, atI_2, atI_3, atI_4, Int.reduceToNat, Int.reduceLT, Int.reduceLE, Int.reduceNeg, Int.reducePow, cast_lit, upd_upd, Int.reduceAdd, Int.reduceMul, Int.reduceSub, Nat.reduceLT, Nat.reduceLeDiff, cmul_r, cdiv_r, tSl, tPart, tNoPart, rEq, rNe, scal_nn, scal_ii, scal_bb, scal_ss, scal_is, scal_si, V.ty.injEq, and_assoc, tyH_non, tyH_bl, tyH_int, tyH_str, tyH_ref, tyO_lst, tyO_IL, tyO_tup, itO_lst, itO_tup, itO_IL, Dw.rIxD, rLenI, rLenH, rLenTH, rLenQ, rLenB, rListI, Dw.rListS, rIntI, rIntB, rSumI, rIsiD, rIsX, tCallS, tMakeS, tMake, tMakeC, tMakeSC, tFld, sFld, HO.ins.injEq, HO.tup.injEq, cxOf_K, nox_K, tr_K, suite_K, rTupleI, rAllB, rAnyB, BL_inj, tChain, wOnly, wAs, wMany, rEqI, rNeI, Dw.rMax2, rMin2, Dw.rIsN, rIsNotN, rStrIn, rStrNotIn, not_true_eq_false, not_false_eq_true, reduceCtorEq, cl_bool, cl_int, cl_str, cl_list, cl_tuple, isB_NoneType_bool, isB_NoneType_int, isB_NoneType_str, isB_NoneType_list, isB_NoneType_tuple, isB_bool_bool, isB_bool_int, isB_bool_str, isB_bool_list, isB_bool_tuple, isB_int_bool, isB_int_int, isB_int_str, isB_int_list, isB_int_tuple, isB_str_bool, isB_str_int, isB_str_str, isB_str_list, isB_str_tuple, isB_list_bool, isB_list_int, isB_list_str, isB_list_list, isB_list_tuple, isB_tuple_bool, isB_tuple_int, isB_tuple_str, isB_tuple_list, isB_tuple_tuple, iEz, tPar, tRevL, Dw.rSetL, Dw.rIxL, rIxE, iSeqA, rListTI, hx1, hy1, atI_k, g1, k1]
        have hdp := depthAll_get g2
        refine ⟨_, _, d2, rfl, g3, k3, by omega, shaped_item g2 hs.1 (by omega), true, rfl, ?_⟩
        try simp only [tSeq, tAsg, tVar, tC, tOp, rI0, rI, tUn, rU, tIfS, tTest, tRet, tRetN, tDrop, tCB, tCons, tNil, tLst, tLstI, tTup, gName, tB, tAnd, tOr, tNot, tAndV, tOrV, tNotV, tIf, tNext, tBreak, tCont, gSub, tCall, tCallN, tAug, ipI, tBML, tBML0, isL_IL, isL_lst, L2.start, List.map_cons, List.map_nil, List.length_cons, List.length_nil, List.cons_append, List.nil_append, List.getElem?_cons_succ, List.getElem?_cons_zero, Option.some.injEq, exists_eq_left', exists_eq_left, exists_and_left, V.int.injEq, V.ref.injEq, V.bl.injEq, V.str.injEq, List.set_cons_zero, List.set_cons_succ, List.cons.injEq, and_true, true_and, Nat.reduceAdd, Nat.reduceSub, List.replicate_succ, List.replicate_zero, rIxI, rIxH, rIxTH, rSetI, rSetH, rCatI, rRepI, rSlI, rAppendI, rExtendI, decide_eq_true_eq, upd_same, IL_inj, HO.lst.injEq, toInts_cons, toInts_nil, Option.map_some, if_true, if_false, Bool.true_eq_false, Bool.false_eq_true, Bool.not_true, Bool.not_false, Bool.not_eq_true', decide_eq_false_iff_not, atI_0, atI_1, atI_2, atI_3, atI_4, Int.reduceToNat, Int.reduceLT, Int.reduceLE, Int.reduceNeg, Int.reducePow, cast_lit, upd_upd, Int.reduceAdd, Int.reduceMul, Int.reduceSub, Nat.reduceLT, Nat.reduceLeDiff, cmul_r, cdiv_r, tSl, tPart, tNoPart, rEq, rNe, scal_nn, scal_ii, scal_bb, scal_ss, scal_is, scal_si, V.ty.injEq, and_assoc, tyH_non, tyH_bl, tyH_int, tyH_str, tyH_ref, tyO_lst, tyO_IL, tyO_tup, itO_lst, itO_tup, itO_IL, Dw.rIxD, rLenI, rLenH, rLenTH, rLenQ, rLenB, rListI, Dw.rListS, rIntI, rIntB, rSumI, rIsiD, rIsX, tCallS, tMakeS, tMake, tMakeC, tMakeSC, tFld, sFld, HO.ins.injEq, HO.tup.injEq, cxOf_K, nox_K, tr_K, suite_K, rTupleI, rAllB, rAnyB, BL_inj, tChain, wOnly, wAs, wMany, rEqI, rNeI, Dw.rMax2, rMin2, Dw.rIsN, rIsNotN, rStrIn, rStrNotIn, not_true_eq_false, not_false_eq_true, reduceCtorEq, cl_bool, cl_int, cl_str, cl_list, cl_tuple, isB_NoneType_bool, isB_NoneType_int, isB_NoneType_str, isB_NoneType_list, isB_NoneType_tuple, isB_bool_bool, isB_bool_int, isB_bool_str, isB_bool_list, isB_bool_tuple, isB_int_bool, isB_int_int, isB_int_str, isB_int_list, isB_int_tuple, isB_str_bool, isB_str_int, isB_str_str, isB_str_list, isB_str_tuple, isB_list_bool, isB_list_int, isB_list_str, isB_list_list, isB_list_tuple, isB_tuple_bool, isB_tuple_int, isB_tuple_str, isB_tuple_list, isB_tuple_tuple, iEz, tPar, tRevL, Dw.rSetL, Dw.rIxL, rIxE, iSeqA, rListTI]
        rw [hI]
        exact ⟨rfl, _, rfl⟩
      · intro σ H' h
        rw [hI] at h
        obtain ⟨rfl, y, rfl⟩ := h
        try simp only [tSeq, tAsg, tVar, tC, tOp, rI0, rI, tUn, rU, tIfS, tTest, tRet, tRetN, tDrop, tCB, tCons, tNil, tLst, tLstI, tTup, gName, tB, tAnd, tOr, tNot, tAndV, tOrV, tNotV, tIf, tNext, tBreak, tCont, gSub, tCall, tCallN, tAug, ipI, tBML, tBML0, isL_IL, isL_lst, L2.start, List.map_cons, List.map_nil, List.length_cons, List.length_nil, List.cons_append, List.nil_append, List.getElem?_cons_succ, List.getElem?_cons_zero, Option.some.injEq, exists_eq_left', exists_eq_left, exists_and_left, V.int.injEq, V.ref.injEq, V.bl.injEq, V.str.injEq, List.set_cons_zero, List.set_cons_succ, List.cons.injEq, and_true, true_and, Nat.reduceAdd, Nat.reduceSub, List.replicate_succ, List.replicate_zero, rIxI, rIxH, rIxTH, rSetI, rSetH, rCatI, rRepI, rSlI, rAppendI, rExtendI, decide_eq_true_eq, upd_same, IL_inj, HO.lst.injEq, toInts_cons, toInts_nil, Option.map_some, if_true, if_false, Bool.true_eq_false, Bool.false_eq_true, Bool.not_true, Bool.not_false, Bool.not_eq_true', decide_eq_false_iff_not, atI_0, atI_1, atI_2, atI_3, atI_4, Int.reduceToNat, Int.reduceLT, Int.reduceLE, Int.reduceNeg, Int.reducePow, cast_lit, upd_upd, Int.reduceAdd, Int.reduceMul, Int.reduceSub, Nat.reduceLT, Nat.reduceLeDiff, cmul_r, cdiv_r, tSl, tPart, tNoPart, rEq, rNe, scal_nn, scal_ii, scal_bb, scal_ss, scal_is, scal_si, V.ty.injEq, and_assoc, tyH_non, tyH_bl, tyH_int, tyH_str, tyH_ref, tyO_lst, tyO_IL, tyO_tup, itO_lst, itO_tup, itO_IL, Dw.rIxD, rLenI, rLenH, rLenTH, rLenQ, rLenB, rListI, Dw.rListS, rIntI, rIntB, rSumI, rIsiD, rIsX, tCallS, tMakeS, tMake, tMakeC, tMakeSC, tFld, sFld, HO.ins.injEq, HO.tup.injEq, cxOf_K, nox_K, tr_K, suite_K, rTupleI, rAllB, rAnyB, BL_inj, tChain, wOnly, wAs, wMany, rEqI, rNeI, Dw.rMax2, rMin2, Dw.rIsN, rIsNotN, rStrIn, rStrNotIn, not_true_eq_false, not_false_eq_true, reduceCtorEq, cl_bool, cl_int, cl_str, cl_list, cl_tuple, isB_NoneType_bool, isB_NoneType_int, isB_NoneType_str, isB_NoneType_list, isB_NoneType_tuple, isB_bool_bool, isB_bool_int, isB_bool_str, isB_bool_list, isB_bool_tuple, isB_int_bool, isB_int_int, isB_int_str, isB_int_list, isB_int_tuple, isB_str_bool, isB_str_int, isB_str_str, isB_str_list, isB_str_tuple, isB_list_bool, isB_list_int, isB_list_str, isB_list_list, isB_list_tuple, isB_tuple_bool, isB_tuple_int, isB_tuple_str, isB_tuple_list, isB_tuple_tuple, iEz, tPar, tRevL, Dw.rSetL, Dw.rIxL, rIxE, iSeqA, rListTI]
        exact q
    | tuple ds =>
      cases hx with | tup hx1 hx2 =>
      cases hy with | tup hy1 hy2 =>
      rename_i a xs b ys
      have ex := dtAll_len hx2
      have ey := dtAll_len hy2
      have exy : ¬ ¬ (xs.length : Int) = ys.length := fun z => z (by rw [ex, ey])
      simp only [SeqAt.shaped, Bool.and_eq_true, PyData.depth, PyData.canLay0] at hs hd
      have hs2 : PyData.depthAll ds + 1 ≤ 64 := of_decide_eq_true hs.2
      obtain ⟨I, hI⟩ : ∃ F : Nat → L2.St → Hp → Prop, F = (fun i σ H' => H' = H ∧ ∃ y, σ = [some (V.ref a), some (V.ref b), y]) := ⟨_, rfl⟩
      try simp only [tSeq, tAsg, tVar, tC, tOp, rI0, rI, tUn, rU, tIfS, tTest, tRet, tRetN, tDrop, tCB, tCons, tNil, tLst, tLstI, tTup, gName, tB, tAnd, tOr, tNot, tAndV, tOrV, tNotV, tIf, tNext, tBreak, tCont, gSub, tCall, tCallN, tAug, ipI, tBML, tBML0, isL_IL, isL_lst, L2.start, List.map_cons, List.map_nil, List.length_cons, List.length_nil, List.cons_append, List.nil_append, List.getElem?_cons_succ, List.getElem?_cons_zero, Option.some.injEq, exists_eq_left', exists_eq_left, exists_and_left, V.int.injEq, V.ref.injEq, V.bl.injEq, V.str.injEq, List.set_cons_zero, List.set_cons_succ, List.cons.injEq, and_true, true_and, Nat.reduceAdd, Nat.reduceSub, List.replicate_succ, List.replicate_zero, rIxI, rIxH, rIxTH, rSetI, rSetH, rCatI, rRepI, rSlI, rAppendI, rExtendI, decide_eq_true_eq, upd_same, IL_inj, HO.lst.injEq, toInts_cons, toInts_nil, Option.map_some, if_true, if_false, Bool.true_eq_false, Bool.false_eq_true, Bool.not_true, Bool.not_false, Bool.not_eq_true', decide_eq_false_iff_not, atI_0, atI_1, atI_2, atI_3, atI_4, Int.reduceToNat, Int.reduceLT, Int.reduceLE, Int.reduceNeg, Int.reducePow, cast_lit, upd_upd, Int.reduceAdd, Int.reduceMul, Int.reduceSub, Nat.reduceLT, Nat.reduceLeDiff, cmul_r, cdiv_r, tSl, tPart, tNoPart, rEq, rNe, scal_nn, scal_ii, scal_bb, scal_ss, scal_is, scal_si, V.ty.injEq, and_assoc, tyH_non, tyH_bl, tyH_int, tyH_str, tyH_ref, tyO_lst, tyO_IL, tyO_tup, itO_lst, itO_tup, itO_IL, Dw.rIxD, rLenI, rLenH, rLenTH, rLenQ, rLenB, rListI, Dw.rListS, rIntI, rIntB, rSumI, rIsiD, rIsX, tCallS, tMakeS, tMake, tMakeC, tMakeSC, tFld, sFld, HO.ins.injEq, HO.tup.injEq, cxOf_K, nox_K, tr_K, suite_K, rTupleI, rAllB, rAnyB, BL_inj, tChain, wOnly, wAs, wMany, rEqI, rNeI, Dw.rMax2, rMin2, Dw.rIsN, rIsNotN, rStrIn, rStrNotIn, not_true_eq_false, not_false_eq_true, reduceCtorEq, cl_bool, cl_int, cl_str, cl_list, cl_tuple, isB_NoneType_bool, isB_NoneType_int, isB_NoneType_str, isB_NoneType_list, isB_NoneType_tuple, isB_bool_bool, isB_bool_int, isB_bool_str, isB_bool_list, isB_bool_tuple, isB_int_bool, isB_int_int, isB_int_str, isB_int_list, isB_int_tuple, isB_str_bool, isB_str_int, isB_str_str, isB_str_list, isB_str_tuple, isB_list_bool, isB_list_int, isB_list_str, isB_list_list, isB_list_tuple, isB_tuple_bool, isB_tuple_int, isB_tuple_str, isB_tuple_list, isB_tuple_tuple, iEz, tPar, tRevL, Dw.rSetL, Dw.rIxL, rIxE, iSeqA, rListTI, decide_true, hx1, hy1]
      intro hz
      rw [if_neg exy]
      refine ⟨_, rfl, b, _, rfl, by rw [hy1]; rfl, fun _ => ⟨ys.length, rfl, by omega, by omega, for_range (lo := 0) (n := ((ys.length : Nat) : Int).toNat) I (by rw [hI]; exact ⟨rfl, none, rfl⟩) ?_ ?_⟩⟩
      · intro i σ H' hi h
        rw [hI] at h
        obtain ⟨rfl, y, rfl⟩ := h
        obtain ⟨x1, d1, g1, g2, g3⟩ := dtAll_get (i := i) hx2 (by omega)
        obtain ⟨x2, d2, k1, k2, k3⟩ := dtAll_get (i := i) hy2 (by omega)
        have ed : d2 = d1 := Option.some.inj (k2.symm.trans g2)
        subst ed
        have e0 : (0 : Int) + (i : Int) = ((i : Nat) : Int) := by omega
        rw [e0]
        try simp only [tSeq, tAsg, tVar, tC, tOp, rI0, rI, tUn, rU, tIfS, tTest, tRet, tRetN, tDrop, tCB, tCons, tNil, tLst, tLstI, tTup, gName, tB, tAnd, tOr, tNot, tAndV, tOrV, tNotV, tIf, tNext, tBreak, tCont, gSub, tCall, tCallN, tAug, ipI, tBML, tBML0, isL_IL, isL_lst, L2.start, List.map_cons, List.map_nil, List.length_cons, List.length_nil, List.cons_append, List.nil_append, List.getElem?_cons_succ, List.getElem?_cons_zero, Option.some.injEq, exists_eq_left', exists_eq_left, exists_and_left, V.int.injEq, V.ref.injEq, V.bl.injEq, V.str.injEq, List.set_cons_zero, List.set_cons_succ, List.cons.injEq, and_true, true_and, Nat.reduceAdd, Nat.reduceSub, List.replicate_succ, List.replicate_zero, rIxI, rIxH, rIxTH, rSetI, rSetH, rCatI, rRepI, rSlI, rAppendI, rExtendI, decide_eq_true_eq, upd_same, IL_inj, HO.lst.injEq, toInts_cons, toInts_nil, Option.map_some, if_true, if_false, Bool.true_eq_false, Bool.false_eq_true, Bool.not_true, Bool.not_false, Bool.not_eq_true', decide_eq_false_iff_not, atI_0, atI_1, atI_2, atI_3, atI_4, Int.reduceToNat, Int.reduceLT, Int.reduceLE, Int.reduceNeg, Int.reducePow, cast_lit, upd_upd, Int.reduceAdd, Int.reduceMul, Int.reduceSub, Nat.reduceLT, Nat.reduceLeDiff, cmul_r, cdiv_r, tSl, tPart, tNoPart, rEq, rNe, scal_nn, scal_ii, scal_bb, scal_ss, scal_is, scal_si, V.ty.injEq, and_assoc, tyH_non, tyH_bl, tyH_int, tyH_str, tyH_ref, tyO_lst, tyO_IL, tyO_tup, itO_lst, itO_tup, itO_IL, Dw.rIxD, rLenI, rLenH, rLenTH, rLenQ, rLenB, rListI, Dw.rListS, rIntI, rIntB, rSumI, rIsiD, rIsX, tCallS, tMakeS, tMake, tMakeC, tMakeSC, tFld, sFld, HO.ins.injEq, HO.tup.injEq, cxOf_K, nox_K, tr_K, suite_K, rTupleI, rAllB, rAnyB, BL_inj, tChain, wOnly, wAs, wMany, rEqI, rNeI, Dw.rMax2, rMin2, Dw.rIsN, rIsNotN, rStrIn, rStrNotIn, not_true_eq_false, not_false_eq_true, reduceCtorEq, cl_bool, cl_int, cl_str, cl_list, cl_tuple, isB_NoneType_bool, isB_NoneType_int, isB_NoneType_str, isB_NoneType_list, isB_NoneType_tuple, isB_bool_bool, isB_bool_int, isB_bool_str, isB_bool_list, isB_bool_tuple, isB_int_bool, isB_int_int, isB_int_str, isB_int_list, isB_int_tuple, isB_str_bool, isB_str_int, isB_str_str, isB_str_list, isB_str_tuple, isB_list_bool, isB_list_int, isB_list_str, isB_list_list, isB_list_tuple, isB_tuple_bool, isB_tuple_int, isB_tuple_str, isB_tuple_list, isB_tuple_tuple, iEz, tPar, tRevL, Dw.rSetL, Dw.rIxL, rIxE, iSeqA, rListTI, hx1, hy1, atI_k, g1, k1]
        have hdp := depthAll_get g2
        refine ⟨_, _, d2, rfl, g3, k3, by omega, shaped_item g2 hs.1 (by omega), true, rfl, ?_⟩
        try simp only [tSeq, tAsg, tVar, tC, tOp, rI0, rI, tUn, rU, tIfS, tTest, tRet, tRetN, tDrop, tCB, tCons, tNil, tLst, tLstI, tTup, gName, tB, tAnd, tOr, tNot, tAndV, tOrV, tNotV, tIf, tNext, tBreak, tCont, gSub, tCall, tCallN, tAug, ipI, tBML, tBML0, isL_IL, isL_lst, L2.start, List.map_cons, List.map_nil, List.length_cons, List.length_nil, List.cons_append, List.nil_append, List.getElem?_cons_succ, List.getElem?_cons_zero, Option.some.injEq, exists_eq_left', exists_eq_left, exists_and_left, V.int.injEq, V.ref.injEq, V.bl.injEq, V.str.injEq, List.set_cons_zero, List.set_cons_succ, List.cons.injEq, and_true, true_and, Nat.reduceAdd, Nat.reduceSub, List.replicate_succ, List.replicate_zero, rIxI, rIxH, rIxTH, rSetI, rSetH, rCatI, rRepI, rSlI, rAppendI, rExtendI, decide_eq_true_eq, upd_same, IL_inj, HO.lst.injEq, toInts_cons, toInts_nil, Option.map_some, if_true, if_false, Bool.true_eq_false, Bool.false_eq_true, Bool.not_true, Bool.not_false, Bool.not_eq_true', decide_eq_false_iff_not, atI_0, atI_1, atI_2, atI_3, atI_4, Int.reduceToNat, Int.reduceLT, Int.reduceLE, Int.reduceNeg, Int.reducePow, cast_lit, upd_upd, Int.reduceAdd, Int.reduceMul, Int.reduceSub, Nat.reduceLT, Nat.reduceLeDiff, cmul_r, cdiv_r, tSl, tPart, tNoPart, rEq, rNe, scal_nn, scal_ii, scal_bb, scal_ss, scal_is, scal_si, V.ty.injEq, and_assoc, tyH_non, tyH_bl, tyH_int, tyH_str, tyH_ref, tyO_lst, tyO_IL, tyO_tup, itO_lst, itO_tup, itO_IL, Dw.rIxD, rLenI, rLenH, rLenTH, rLenQ, rLenB, rListI, Dw.rListS, rIntI, rIntB, rSumI, rIsiD, rIsX, tCallS, tMakeS, tMake, tMakeC, tMakeSC, tFld, sFld, HO.ins.injEq, HO.tup.injEq, cxOf_K, nox_K, tr_K, suite_K, rTupleI, rAllB, rAnyB, BL_inj, tChain, wOnly, wAs, wMany, rEqI, rNeI, Dw.rMax2, rMin2, Dw.rIsN, rIsNotN, rStrIn, rStrNotIn, not_true_eq_false, not_false_eq_true, reduceCtorEq, cl_bool, cl_int, cl_str, cl_list, cl_tuple, isB_NoneType_bool, isB_NoneType_int, isB_NoneType_str, isB_NoneType_list, isB_NoneType_tuple, isB_bool_bool, isB_bool_int, isB_bool_str, isB_bool_list, isB_bool_tuple, isB_int_bool, isB_int_int, isB_int_str, isB_int_list, isB_int_tuple, isB_str_bool, isB_str_int, isB_str_str, isB_str_list, isB_str_tuple, isB_list_bool, isB_list_int, isB_list_str, isB_list_list, isB_list_tuple, isB_tuple_bool, isB_tuple_int, isB_tuple_str, isB_tuple_list, isB_tuple_tuple, iEz, tPar, tRevL, Dw.rSetL, Dw.rIxL, rIxE, iSeqA, rListTI]
        rw [hI]
        exact ⟨rfl, _, rfl⟩
      · intro σ H' h
        rw [hI] at h
        obtain ⟨rfl, y, rfl⟩ := h
        try simp only [tSeq, tAsg, tVar, tC, tOp, rI0, rI, tUn, rU, tIfS, tTest, tRet, tRetN, tDrop, tCB, tCons, tNil, tLst, tLstI, tTup, gName, tB, tAnd, tOr, tNot, tAndV, tOrV, tNotV, tIf, tNext, tBreak, tCont, gSub, tCall, tCallN, tAug, ipI, tBML, tBML0, isL_IL, isL_lst, L2.start, List.map_cons, List.map_nil, List.length_cons, List.length_nil, List.cons_append, List.nil_append, List.getElem?_cons_succ, List.getElem?_cons_zero, Option.some.injEq, exists_eq_left', exists_eq_left, exists_and_left, V.int.injEq, V.ref.injEq, V.bl.injEq, V.str.injEq, List.set_cons_zero, List.set_cons_succ, List.cons.injEq, and_true, true_and, Nat.reduceAdd, Nat.reduceSub, List.replicate_succ, List.replicate_zero, rIxI, rIxH, rIxTH, rSetI, rSetH, rCatI, rRepI, rSlI, rAppendI, rExtendI, decide_eq_true_eq, upd_same, IL_inj, HO.lst.injEq, toInts_cons, toInts_nil, Option.map_some, if_true, if_false, Bool.true_eq_false, Bool.false_eq_true, Bool.not_true, Bool.not_false, Bool.not_eq_true', decide_eq_false_iff_not, atI_0, atI_1, atI_2, atI_3, atI_4, Int.reduceToNat, Int.reduceLT, Int.reduceLE, Int.reduceNeg, Int.reducePow, cast_lit, upd_upd, Int.reduceAdd, Int.reduceMul, Int.reduceSub, Nat.reduceLT, Nat.reduceLeDiff, cmul_r, cdiv_r, tSl, tPart, tNoPart, rEq, rNe, scal_nn, scal_ii, scal_bb, scal_ss, scal_is, scal_si, V.ty.injEq, and_assoc, tyH_non, tyH_bl, tyH_int, tyH_str, tyH_ref, tyO_lst, tyO_IL, tyO_tup, itO_lst, itO_tup, itO_IL, Dw.rIxD, rLenI, rLenH, rLenTH, rLenQ, rLenB, rListI, Dw.rListS, rIntI, rIntB, rSumI, rIsiD, rIsX, tCallS, tMakeS, tMake, tMakeC, tMakeSC, tFld, sFld, HO.ins.injEq, HO.tup.injEq, cxOf_K, nox_K, tr_K, suite_K, rTupleI, rAllB, rAnyB, BL_inj, tChain, wOnly, wAs, wMany, rEqI, rNeI, Dw.rMax2, rMin2, Dw.rIsN, rIsNotN, rStrIn, rStrNotIn, not_true_eq_false, not_false_eq_true, reduceCtorEq, cl_bool, cl_int, cl_str, cl_list, cl_tuple, isB_NoneType_bool, isB_NoneType_int, isB_NoneType_str, isB_NoneType_list, isB_NoneType_tuple, isB_bool_bool, isB_bool_int, isB_bool_str, isB_bool_list, isB_bool_tuple, isB_int_bool, isB_int_int, isB_int_str, isB_int_list, isB_int_tuple, isB_str_bool, isB_str_int, isB_str_str, isB_str_list, isB_str_tuple, isB_list_bool, isB_list_int, isB_list_str, isB_list_list, isB_list_tuple, isB_tuple_bool, isB_tuple_int, isB_tuple_str, isB_tuple_list, isB_tuple_tuple, iEz, tPar, tRevL, Dw.rSetL, Dw.rIxL, rIxE, iSeqA, rListTI]
        exact q
theorem ok_law_same (T : Tx K mg A) : FnOk P w K mg base CX0 8 A.f_law_same A.d_law_same ["actual", "due"] (spSame 8) := ok_law_same_ T 8
end
section
variable {P : Program} {w : World} {K : PySem.W.Frag} {mg : Str → Option Value} {base : Heap} {A : Ad}
theorem ok_law_or (T : Tx K mg A) : FnOk P w K mg base CX0 1 A.f_law_or A.d_law_or ["a", "b"] spOr := by
  refine T.F_law_or.ok sc_law_or (fun vs H Q E h => ?_) (fun cdv A' outer s H vs Q E hr h => ?_)
  · obtain ⟨a, b, rfl, _⟩ := h
    rfl
  obtain ⟨a, b, rfl, q⟩ := h
  refine ⟨_, (pss_one (ps_ret (pe_op op_sub (pe_op op_or (pv 0) (pv 1)) (pe_op op_and (pv 0) (pv 1))))), ?_⟩
  try simp only [tSeq, tAsg, tVar, tC, tOp, rI0, rI, tUn, rU, tIfS, tTest, tRet, tRetN, tDrop, tCB, tCons, tNil, tLst, tLstI, tTup, gName, tB, tAnd, tOr, tNot, tAndV, tOrV, tNotV, tIf, tNext, tBreak, tCont, gSub, tCall, tCallN, tAug, ipI, tBML, tBML0, isL_IL, isL_lst, L2.start, List.map_cons, List.map_nil, List.length_cons, List.length_nil, List.cons_append, List.nil_append, List.getElem?_cons_succ, List.getElem?_cons_zero, Option.some.injEq, exists_eq_left', exists_eq_left, exists_and_left, V.int.injEq, V.ref.injEq, V.bl.injEq, V.str.injEq, List.set_cons_zero, List.set_cons_succ, List.cons.injEq, and_true, true_and, Nat.reduceAdd, Nat.reduceSub, List.replicate_succ, List.replicate_zero, rIxI, rIxH, rIxTH, rSetI, rSetH, rCatI, rRepI, rSlI, rAppendI, rExtendI, decide_eq_true_eq, upd_same, IL_inj, HO.lst.injEq, toInts_cons, toInts_nil, Option.map_some, if_true, if_false, Bool.true_eq_false, Bool.false_eq_true, Bool.not_true, Bool.not_false, Bool.not_eq_true', decide_eq_false_iff_not, atI_0, atI_1, atI_2, atI_3, atI_4, Int.reduceToNat, Int.reduceLT, Int.reduceLE, Int.reduceNeg, Int.reducePow, cast_lit, upd_upd, Int.reduceAdd, Int.reduceMul, Int.reduceSub, Nat.reduceLT, Nat.reduceLeDiff, cmul_r, cdiv_r, tSl, tPart, tNoPart, rEq, rNe, scal_nn, scal_ii, scal_bb, scal_ss, scal_is, scal_si, V.ty.injEq, and_assoc, tyH_non, tyH_bl, tyH_int, tyH_str, tyH_ref, tyO_lst, tyO_IL, tyO_tup, itO_lst, itO_tup, itO_IL, Dw.rIxD, rLenI, rLenH, rLenTH, rLenQ, rLenB, rListI, Dw.rListS, rIntI, rIntB, rSumI, rIsiD, rIsX, tCallS, tMakeS, tMake, tMakeC, tMakeSC, tFld, sFld, HO.ins.injEq, HO.tup.injEq, cxOf_K, nox_K, tr_K, suite_K, rTupleI, rAllB, rAnyB, BL_inj, tChain, wOnly, wAs, wMany, rEqI, rNeI, Dw.rMax2, rMin2, Dw.rIsN, rIsNotN, rStrIn, rStrNotIn, not_true_eq_false, not_false_eq_true, reduceCtorEq, cl_bool, cl_int, cl_str, cl_list, cl_tuple, isB_NoneType_bool, isB_NoneType_int, isB_NoneType_str, isB_NoneType_list, isB_NoneType_tuple, isB_bool_bool, isB_bool_int, isB_bool_str, isB_bool_list, isB_bool_tuple, isB_int_bool, isB_int_int, isB_int_str, isB_int_list, isB_int_tuple, isB_str_bool, isB_str_int, isB_str_str, isB_str_list, isB_str_tuple, isB_list_bool, isB_list_int, isB_list_str, isB_list_list, isB_list_tuple, isB_tuple_bool, isB_tuple_int, isB_tuple_str, isB_tuple_list, isB_tuple_tuple, iEz, tPar, tRevL, Dw.rSetL, Dw.rIxL, rIxE, iSeqA, rListTI, or_sub_and]
  exact q
end
section
variable {P : Program} {w : World} {K : PySem.W.Frag} {mg : Str → Option Value} {base : Heap} {A : Ad}
theorem ok_law_check (T : Tx K mg A) : FnOk P w K mg base CX0 2 A.f_law_check A.d_law_check ["values"] spCrc := by
  refine T.F_law_check.ok sc_law_check (fun vs H Q E h => ?_) (fun cdv A' outer s H vs Q E hr h => ?_)
  · obtain ⟨a, ns, rfl, _⟩ := h
    rfl
  obtain ⟨a, ns, rfl, hA, hb, q⟩ := h
  refine ⟨_, (pss_cons (ps_set (i := 1) sc_law_check.nd rfl (Or.inl rfl) pe_int)
      (pss_cons (ps_for PassesOwn.never rfl (pi_list (pv 0)) (pg_name (i := 2) sc_law_check.nd rfl (Or.inl rfl))
        (pss_one (ps_for PassesOwn.never rfl (pi_range1 rfl T.z_range (pa_cons pe_int pa_nil)) (pg_name (i := 3) sc_law_check.nd rfl (Or.inl rfl))
        (pss_cons (ps_set (i := 4) sc_law_check.nd rfl (Or.inl rfl) (pe_op op_and (pe_op op_shr (pv 1) pe_int) pe_int))
      (pss_cons (ps_set (i := 1) sc_law_check.nd rfl (Or.inl rfl) (pe_op op_and (pe_op op_shl (pv 1) pe_int) pe_int))
      (pss_one (ps_if (pt_cmpR op_ne (pv 4) (pe_op op_and (pe_op op_shr (pv 2) (pe_op op_sub pe_int (pv 3))) pe_int) (nomark _)) (pss_one (ps_set (i := 1) sc_law_check.nd rfl (Or.inl rfl) (pe_call (ok_law_or T) (hr.mono (by decide)) rfl T.g_law_or T.F_law_or.kp T.b_law_or .nil pass0 (pa_cons (pv 1) (pa_cons pe_int pa_nil))))) pss_nil)))))))
      (pss_one (ps_ret (pv 1))))), ?_⟩
  obtain ⟨I, hI⟩ : ∃ F : Nat → L2.St → Hp → Prop, F = (fun i σ H' => H' = H ∧ ∃ x y z, σ = [some (V.ref a), some (V.int (crcZ (ns.take i))), x, y, z]) := ⟨_, rfl⟩
  try simp only [tSeq, tAsg, tVar, tC, tOp, rI0, rI, tUn, rU, tIfS, tTest, tRet, tRetN, tDrop, tCB, tCons, tNil, tLst, tLstI, tTup, gName, tB, tAnd, tOr, tNot, tAndV, tOrV, tNotV, tIf, tNext, tBreak, tCont, gSub, tCall, tCallN, tAug, ipI, tBML, tBML0, isL_IL, isL_lst, L2.start, List.map_cons, List.map_nil, List.length_cons, List.length_nil, List.cons_append, List.nil_append, List.getElem?_cons_succ, List.getElem?_cons_zero, Option.some.injEq, exists_eq_left', exists_eq_left, exists_and_left, V.int.injEq, V.ref.injEq, V.bl.injEq, V.str.injEq, List.set_cons_zero, List.set_cons_succ, List.cons.injEq, and_true, true_and, Nat.reduceAdd, Nat.reduceSub, List.replicate_succ, List.replicate_zero, rIxI, rIxH, rIxTH, rSetI, rSetH, rCatI, rRepI, rSlI, rAppendI, rExtendI, decide_eq_true_eq, upd_same, IL_inj, HO.lst.injEq, toInts_cons, toInts_nil, Option.map_some, if_true, if_false, Bool.true_eq_false, Bool.false_eq_true, Bool.not_true, Bool.not_false, Bool.not_eq_true', decide_eq_false_iff_not, atI_0, atI_1, atI_2, atI_3, atI_4, Int.reduceToNat, Int.reduceLT, Int.reduceLE, Int.reduceNeg, Int.reducePow, cast_lit, upd_upd, Int.reduceAdd, Int.reduceMul, Int.reduceSub, Nat.reduceLT, Nat.reduceLeDiff, cmul_r, cdiv_r, tSl, tPart, tNoPart, rEq, rNe, scal_nn, scal_ii, scal_bb, scal_ss, scal_is, scal_si, V.ty.injEq, and_assoc, tyH_non, tyH_bl, tyH_int, tyH_str, tyH_ref, tyO_lst, tyO_IL, tyO_tup, itO_lst, itO_tup, itO_IL, Dw.rIxD, rLenI, rLenH, rLenTH, rLenQ, rLenB, rListI, Dw.rListS, rIntI, rIntB, rSumI, rIsiD, rIsX, tCallS, tMakeS, tMake, tMakeC, tMakeSC, tFld, sFld, HO.ins.injEq, HO.tup.injEq, cxOf_K, nox_K, tr_K, suite_K, rTupleI, rAllB, rAnyB, BL_inj, tChain, wOnly, wAs, wMany, rEqI, rNeI, Dw.rMax2, rMin2, Dw.rIsN, rIsNotN, rStrIn, rStrNotIn, not_true_eq_false, not_false_eq_true, reduceCtorEq, cl_bool, cl_int, cl_str, cl_list, cl_tuple, isB_NoneType_bool, isB_NoneType_int, isB_NoneType_str, isB_NoneType_list, isB_NoneType_tuple, isB_bool_bool, isB_bool_int, isB_bool_str, isB_bool_list, isB_bool_tuple, isB_int_bool, isB_int_int, isB_int_str, isB_int_list, isB_int_tuple, isB_str_bool, isB_str_int, isB_str_str, isB_str_list, isB_str_tuple, isB_list_bool, isB_list_int, isB_list_str, isB_list_list, isB_list_tuple, isB_tuple_bool, isB_tuple_int, isB_tuple_str, isB_tuple_list, isB_tuple_tuple, iEz, tPar, tRevL, Dw.rSetL, Dw.rIxL, rIxE, iSeqA, rListTI]
  refine ⟨_, rfl, a, rfl, ⟨_, .of hA⟩, for_list (xs := ns.map V.int) I (by rw [hI]; exact ⟨rfl, none, none, none, rfl⟩) ?_ ?_ ?_⟩
  · intro i σ H' hi h
    rw [hI] at h
    obtain ⟨rfl, _⟩ := h
    exact .of hA
  · intro i v σ H' hi h
    rw [hI] at h
    obtain ⟨rfl, x, y, u, rfl⟩ := h
    obtain ⟨z, rfl, hz⟩ := ints_at hi
    obtain ⟨v, rfl, hv⟩ := bytes_at hb hz
    have hn := crcN_lt ((ns.take i).map Int.toNat)
    have hm := crcN_more hz
    unfold crcZ
    generalize crcN ((ns.take i).map Int.toNat) = n at hn hm
    obtain ⟨J, hJ⟩ : ∃ F : Nat → L2.St → Hp → Prop, F = (fun k σ H'' => H'' = H' ∧ ∃ x y, σ = [some (V.ref a), some (V.int ((byteK n v k : Nat) : Int)), some (V.int (v : Int)), x, y]) := ⟨_, rfl⟩
    try simp only [tSeq, tAsg, tVar, tC, tOp, rI0, rI, tUn, rU, tIfS, tTest, tRet, tRetN, tDrop, tCB, tCons, tNil, tLst, tLstI, tTup, gName, tB, tAnd, tOr, tNot, tAndV, tOrV, tNotV, tIf, tNext, tBreak, tCont, gSub, tCall, tCallN, tAug, ipI, tBML, tBML0, isL_IL, isL_lst, L2.start, List.map_cons, List.map_nil, List.length_cons, List.length_nil, List.cons_append, List.nil_append, List.getElem?_cons_succ, List.getElem?_cons_zero, Option.some.injEq, exists_eq_left', exists_eq_left, exists_and_left, V.int.injEq, V.ref.injEq, V.bl.injEq, V.str.injEq, List.set_cons_zero, List.set_cons_succ, List.cons.injEq, and_true, true_and, Nat.reduceAdd, Nat.reduceSub, List.replicate_succ, List.replicate_zero, rIxI, rIxH, rIxTH, rSetI, rSetH, rCatI, rRepI, rSlI, rAppendI, rExtendI, decide_eq_true_eq, upd_same, IL_inj, HO.lst.injEq, toInts_cons, toInts_nil, Option.map_some, if_true, if_false, Bool.true_eq_false, Bool.false_eq_true, Bool.not_true, Bool.not_false, Bool.not_eq_true', decide_eq_false_iff_not, atI_0, atI_1, atI_2, atI_3, atI_4, Int.reduceToNat, Int.reduceLT, Int.reduceLE, Int.reduceNeg, Int.reducePow, cast_lit, upd_upd, Int.reduceAdd, Int.reduceMul, Int.reduceSub, Nat.reduceLT, Nat.reduceLeDiff, cmul_r, cdiv_r, tSl, tPart, tNoPart, rEq, rNe, scal_nn, scal_ii, scal_bb, scal_ss, scal_is, scal_si, V.ty.injEq, and_assoc, tyH_non, tyH_bl, tyH_int, tyH_str, tyH_ref, tyO_lst, tyO_IL, tyO_tup, itO_lst, itO_tup, itO_IL, Dw.rIxD, rLenI, rLenH, rLenTH, rLenQ, rLenB, rListI, Dw.rListS, rIntI, rIntB, rSumI, rIsiD, rIsX, tCallS, tMakeS, tMake, tMakeC, tMakeSC, tFld, sFld, HO.ins.injEq, HO.tup.injEq, cxOf_K, nox_K, tr_K, suite_K, rTupleI, rAllB, rAnyB, BL_inj, tChain, wOnly, wAs, wMany, rEqI, rNeI, Dw.rMax2, rMin2, Dw.rIsN, rIsNotN, rStrIn, rStrNotIn, not_true_eq_false, not_false_eq_true, reduceCtorEq, cl_bool, cl_int, cl_str, cl_list, cl_tuple, isB_NoneType_bool, isB_NoneType_int, isB_NoneType_str, isB_NoneType_list, isB_NoneType_tuple, isB_bool_bool, isB_bool_int, isB_bool_str, isB_bool_list, isB_bool_tuple, isB_int_bool, isB_int_int, isB_int_str, isB_int_list, isB_int_tuple, isB_str_bool, isB_str_int, isB_str_str, isB_str_list, isB_str_tuple, isB_list_bool, isB_list_int, isB_list_str, isB_list_list, isB_list_tuple, isB_tuple_bool, isB_tuple_int, isB_tuple_str, isB_tuple_list, isB_tuple_tuple, iEz, tPar, tRevL, Dw.rSetL, Dw.rIxL, rIxE, iSeqA, rListTI]
    refine ⟨8, rfl, by decide, by decide, for_range (lo := 0) (n := 8) J (by rw [hJ]; exact ⟨rfl, _, _, rfl⟩) ?_ ?_⟩
    · intro k σ H'' hk h
      rw [hJ] at h
      obtain ⟨rfl, x2, y2, rfl⟩ := h
      have hl := byteK_lt (v := v) hn k
      have hs := byteK_succ n v k
      generalize byteK n v k = m at hl hs
      have e1 : (m : Int) / 32768 = ((m / 32768 : Nat) : Int) := zdiv m 15
      have e2 : (m : Int) * 2 = ((m * 2 : Nat) : Int) := zmul m 1
      have e3 : (7 - (0 + (k : Int))).toNat = 7 - k := by omega
      have e4 : (v : Int) / 2 ^ (7 - k) = ((v / 2 ^ (7 - k) : Nat) : Int) := zdiv v (7 - k)
      have e5 : (0 : Int) ≤ 7 - (0 + (k : Int)) := by omega
      have e6 : CPow (m : Int) 1 := ⟨by decide, by decide, by omega⟩
      have e7 : m * 2 = 2 * m := Nat.mul_comm _ _
      try simp only [tSeq, tAsg, tVar, tC, tOp, rI0, rI, tUn, rU, tIfS, tTest, tRet, tRetN, tDrop, tCB, tCons, tNil, tLst, tLstI, tTup, gName, tB, tAnd, tOr, tNot, tAndV, tOrV, tNotV, tIf, tNext, tBreak, tCont, gSub, tCall, tCallN, tAug, ipI, tBML, tBML0, isL_IL, isL_lst, L2.start, List.map_cons, List.map_nil, List.length_cons, List.length_nil, List.cons_append, List.nil_append, List.getElem?_cons_succ, List.getElem?_cons_zero, Option.some.injEq, exists_eq_left', exists_eq_left, exists_and_left, V.int.injEq, V.ref.injEq, V.bl.injEq, V.str.injEq, List.set_cons_zero, List.set_cons_succ, List.cons.injEq, and_true, true_and, Nat.reduceAdd, Nat.reduceSub, List.replicate_succ, List.replicate_zero, rIxI, rIxH, rIxTH, rSetI, rSetH, rCatI, rRepI, rSlI, rAppendI, rExtendI, decide_eq_true_eq, upd_same, IL_inj, HO.lst.injEq, toInts_cons, toInts_nil, Option.map_some, if_true, if_false, Bool.true_eq_false, Bool.false_eq_true, Bool.not_true, Bool.not_false, Bool.not_eq_true', decide_eq_false_iff_not, atI_0, atI_1, atI_2, atI_3, atI_4, Int.reduceToNat, Int.reduceLT, Int.reduceLE, Int.reduceNeg, Int.reducePow, cast_lit, upd_upd, Int.reduceAdd, Int.reduceMul, Int.reduceSub, Nat.reduceLT, Nat.reduceLeDiff, cmul_r, cdiv_r, tSl, tPart, tNoPart, rEq, rNe, scal_nn, scal_ii, scal_bb, scal_ss, scal_is, scal_si, V.ty.injEq, and_assoc, tyH_non, tyH_bl, tyH_int, tyH_str, tyH_ref, tyO_lst, tyO_IL, tyO_tup, itO_lst, itO_tup, itO_IL, Dw.rIxD, rLenI, rLenH, rLenTH, rLenQ, rLenB, rListI, Dw.rListS, rIntI, rIntB, rSumI, rIsiD, rIsX, tCallS, tMakeS, tMake, tMakeC, tMakeSC, tFld, sFld, HO.ins.injEq, HO.tup.injEq, cxOf_K, nox_K, tr_K, suite_K, rTupleI, rAllB, rAnyB, BL_inj, tChain, wOnly, wAs, wMany, rEqI, rNeI, Dw.rMax2, rMin2, Dw.rIsN, rIsNotN, rStrIn, rStrNotIn, not_true_eq_false, not_false_eq_true, reduceCtorEq, cl_bool, cl_int, cl_str, cl_list, cl_tuple, isB_NoneType_bool, isB_NoneType_int, isB_NoneType_str, isB_NoneType_list, isB_NoneType_tuple, isB_bool_bool, isB_bool_int, isB_bool_str, isB_bool_list, isB_bool_tuple, isB_int_bool, isB_int_int, isB_int_str, isB_int_list, isB_int_tuple, isB_str_bool, isB_str_int, isB_str_str, isB_str_list, isB_str_tuple, isB_list_bool, isB_list_int, isB_list_str, isB_list_list, isB_list_tuple, isB_tuple_bool, isB_tuple_int, isB_tuple_str, isB_tuple_list, isB_tuple_tuple, iEz, tPar, tRevL, Dw.rSetL, Dw.rIxL, rIxE, iSeqA, rListTI, e1, e2, e3, e4, e5, e6, e7, and1, and65535, V.int.injEq, Int.natCast_inj, spOr]
      by_cases c : m / 32768 % 2 = v / 2 ^ (7 - k) % 2
      · rw [if_neg (fun z => z c), stepB_eq c, ← hs, hJ]
        exact ⟨rfl, _, _, rfl⟩
      · rw [if_pos c]
        refine ⟨4129, rfl, ?_⟩
        rw [stepB_ne c, ← hs, hJ]
        exact ⟨rfl, _, _, rfl⟩
    · intro σ H'' h
      rw [hJ] at h
      obtain ⟨rfl, x2, y2, rfl⟩ := h
      rw [hI]
      have e : byteK n v 8 = byteP n v := byte_eq hn hv
      rw [e, ← hm]
      exact ⟨rfl, _, _, _, rfl⟩
  · intro σ H' h
    rw [hI] at h
    obtain ⟨rfl, x, y, z, rfl⟩ := h
    try simp only [tSeq, tAsg, tVar, tC, tOp, rI0, rI, tUn, rU, tIfS, tTest, tRet, tRetN, tDrop, tCB, tCons, tNil, tLst, tLstI, tTup, gName, tB, tAnd, tOr, tNot, tAndV, tOrV, tNotV, tIf, tNext, tBreak, tCont, gSub, tCall, tCallN, tAug, ipI, tBML, tBML0, isL_IL, isL_lst, L2.start, List.map_cons, List.map_nil, List.length_cons, List.length_nil, List.cons_append, List.nil_append, List.getElem?_cons_succ, List.getElem?_cons_zero, Option.some.injEq, exists_eq_left', exists_eq_left, exists_and_left, V.int.injEq, V.ref.injEq, V.bl.injEq, V.str.injEq, List.set_cons_zero, List.set_cons_succ, List.cons.injEq, and_true, true_and, Nat.reduceAdd, Nat.reduceSub, List.replicate_succ, List.replicate_zero, rIxI, rIxH, rIxTH, rSetI, rSetH, rCatI, rRepI, rSlI, rAppendI, rExtendI, decide_eq_true_eq, upd_same, IL_inj, HO.lst.injEq, toInts_cons, toInts_nil, Option.map_some, if_true, if_false, Bool.true_eq_false, Bool.false_eq_true, Bool.not_true, Bool.not_false, Bool.not_eq_true', decide_eq_false_iff_not, atI_0, atI_1, atI_2, atI_3, atI_4, Int.reduceToNat, Int.reduceLT, Int.reduceLE, Int.reduceNeg, Int.reducePow, cast_lit, upd_upd, Int.reduceAdd, Int.reduceMul, Int.reduceSub, Nat.reduceLT, Nat.reduceLeDiff, cmul_r, cdiv_r, tSl, tPart, tNoPart, rEq, rNe, scal_nn, scal_ii, scal_bb, scal_ss, scal_is, scal_si, V.ty.injEq, and_assoc, tyH_non, tyH_bl, tyH_int, tyH_str, tyH_ref, tyO_lst, tyO_IL, tyO_tup, itO_lst, itO_tup, itO_IL, Dw.rIxD, rLenI, rLenH, rLenTH, rLenQ, rLenB, rListI, Dw.rListS, rIntI, rIntB, rSumI, rIsiD, rIsX, tCallS, tMakeS, tMake, tMakeC, tMakeSC, tFld, sFld, HO.ins.injEq, HO.tup.injEq, cxOf_K, nox_K, tr_K, suite_K, rTupleI, rAllB, rAnyB, BL_inj, tChain, wOnly, wAs, wMany, rEqI, rNeI, Dw.rMax2, rMin2, Dw.rIsN, rIsNotN, rStrIn, rStrNotIn, not_true_eq_false, not_false_eq_true, reduceCtorEq, cl_bool, cl_int, cl_str, cl_list, cl_tuple, isB_NoneType_bool, isB_NoneType_int, isB_NoneType_str, isB_NoneType_list, isB_NoneType_tuple, isB_bool_bool, isB_bool_int, isB_bool_str, isB_bool_list, isB_bool_tuple, isB_int_bool, isB_int_int, isB_int_str, isB_int_list, isB_int_tuple, isB_str_bool, isB_str_int, isB_str_str, isB_str_list, isB_str_tuple, isB_list_bool, isB_list_int, isB_list_str, isB_list_list, isB_list_tuple, isB_tuple_bool, isB_tuple_int, isB_tuple_str, isB_tuple_list, isB_tuple_tuple, iEz, tPar, tRevL, Dw.rSetL, Dw.rIxL, rIxE, iSeqA, rListTI]
    rw [List.length_map, List.take_length]
    exact q
end
section
variable {P : Program} {w : World} {K : PySem.W.Frag} {mg : Str → Option Value} {base : Heap} {A : Ad}
theorem and127 (a : Nat) : Builtin.bitAnd (a : Int) 127 = ((a % 128 : Nat) : Int) := by
  have h := Bits.bitAnd_mask 7 (Int.natCast_nonneg a)
  have e : (2 : Int) ^ 7 - 1 = 127 := by decide
  rw [e] at h
  rw [h]
  have e2 : (2 : Int) ^ 7 = 128 := by decide
  rw [e2]
  omega
theorem ok_law_digits (T : Tx K mg A) : FnOk P w K mg base CX0 1 A.f_law_digits A.d_law_digits ["number"] spWriteNumber := by
  refine T.F_law_digits.ok sc_law_digits (fun vs H Q E h => ?_) (fun cdv A' outer s H vs Q E hr h => ?_)
  · obtain ⟨n, rfl, _⟩ := h
    rfl
  obtain ⟨n, rfl, hn, k⟩ := h
  refine ⟨_, (pss_cons (ps_set (i := 1) sc_law_digits.nd rfl (Or.inl rfl) (pe_lstI pa_nil))
      (pss_cons (ps_for PassesOwn.never rfl (pi_range1 rfl T.z_range (pa_cons pe_int pa_nil)) (pg_name (i := 2) sc_law_digits.nd rfl (Or.inl rfl))
        (pss_one (ps_if (pt_cmpR op_gt (pv 0) pe_int (nomark _)) (pss_cons (ps_expr (PE.imp (pe_bm PySem.F.plainAttrs_list PySem.F.slot_list_append PySem.F.type_list_append mt_appendI (pv 1) (pa_cons (pe_op op_add pe_int (pe_op op_and (pv 0) pe_int)) pa_nil)) bml_imp))
      (pss_one (ps_set (i := 0) sc_law_digits.nd rfl (Or.inl rfl) (pe_op op_shr (pv 0) pe_int)))) pss_nil)))
      (pss_one (ps_ret (pe_op op_catI (pv 1) (pe_lstI (pa_cons (pv 0) pa_nil))))))), ?_⟩
  have hlen := digs_len 99 n hn
  try simp only [tSeq, tAsg, tVar, tC, tOp, rI0, rI, tUn, rU, tIfS, tTest, tRet, tRetN, tDrop, tCB, tCons, tNil, tLst, tLstI, tTup, gName, tB, tAnd, tOr, tNot, tAndV, tOrV, tNotV, tIf, tNext, tBreak, tCont, gSub, tCall, tCallN, tAug, ipI, tBML, tBML0, isL_IL, isL_lst, L2.start, List.map_cons, List.map_nil, List.length_cons, List.length_nil, List.cons_append, List.nil_append, List.getElem?_cons_succ, List.getElem?_cons_zero, Option.some.injEq, exists_eq_left', exists_eq_left, exists_and_left, V.int.injEq, V.ref.injEq, V.bl.injEq, V.str.injEq, List.set_cons_zero, List.set_cons_succ, List.cons.injEq, and_true, true_and, Nat.reduceAdd, Nat.reduceSub, List.replicate_succ, List.replicate_zero, rIxI, rIxH, rIxTH, rSetI, rSetH, rCatI, rRepI, rSlI, rAppendI, rExtendI, decide_eq_true_eq, upd_same, IL_inj, HO.lst.injEq, toInts_cons, toInts_nil, Option.map_some, if_true, if_false, Bool.true_eq_false, Bool.false_eq_true, Bool.not_true, Bool.not_false, Bool.not_eq_true', decide_eq_false_iff_not, atI_0, atI_1, atI_2, atI_3, atI_4, Int.reduceToNat, Int.reduceLT, Int.reduceLE, Int.reduceNeg, Int.reducePow, cast_lit, upd_upd, Int.reduceAdd, Int.reduceMul, Int.reduceSub, Nat.reduceLT, Nat.reduceLeDiff, cmul_r, cdiv_r, tSl, tPart, tNoPart, rEq, rNe, scal_nn, scal_ii, scal_bb, scal_ss, scal_is, scal_si, V.ty.injEq, and_assoc, tyH_non, tyH_bl, tyH_int, tyH_str, tyH_ref, tyO_lst, tyO_IL, tyO_tup, itO_lst, itO_tup, itO_IL, Dw.rIxD, rLenI, rLenH, rLenTH, rLenQ, rLenB, rListI, Dw.rListS, rIntI, rIntB, rSumI, rIsiD, rIsX, tCallS, tMakeS, tMake, tMakeC, tMakeSC, tFld, sFld, HO.ins.injEq, HO.tup.injEq, cxOf_K, nox_K, tr_K, suite_K, rTupleI, rAllB, rAnyB, BL_inj, tChain, wOnly, wAs, wMany, rEqI, rNeI, Dw.rMax2, rMin2, Dw.rIsN, rIsNotN, rStrIn, rStrNotIn, not_true_eq_false, not_false_eq_true, reduceCtorEq, cl_bool, cl_int, cl_str, cl_list, cl_tuple, isB_NoneType_bool, isB_NoneType_int, isB_NoneType_str, isB_NoneType_list, isB_NoneType_tuple, isB_bool_bool, isB_bool_int, isB_bool_str, isB_bool_list, isB_bool_tuple, isB_int_bool, isB_int_int, isB_int_str, isB_int_list, isB_int_tuple, isB_str_bool, isB_str_int, isB_str_str, isB_str_list, isB_str_tuple, isB_list_bool, isB_list_int, isB_list_str, isB_list_list, isB_list_tuple, isB_tuple_bool, isB_tuple_int, isB_tuple_str, isB_tuple_list, isB_tuple_tuple, rSlCI, iRng3, iRev, gCons, gNil, iZip, iEnum, tLc_eq, tFor_eq, iRng1, iRng2, iList, iTup, rSetD, iKeys, tDNewK, Int.reducePow, Int.reduceNeg, iEz, tPar, tRevL, Dw.rSetL, Dw.rIxL, rIxE, iSeqA, rListTI]
  refine ⟨Nat.zero_le _, fun D hD => ?_⟩
  obtain ⟨I, hI⟩ : ∃ F : Nat → L2.St → Hp → Prop, F = (fun t σ H' => Same H H' ∧ ∃ (m : Nat) (acc : List Int) (y : Option V), H' D = some (IL acc) ∧ acc ++ digs m = digs n ∧ m < 128 ^ (100 - t) ∧ σ = [some (.int (m : Int)), some (.ref D), y]) := ⟨_, rfl⟩
  refine for_range (lo := 0) (n := 99) I (by rw [hI]; exact ⟨same_new hD _, n, [], none, upd_same, rfl, hn, rfl⟩) ?_ ?_
  · intro t σ H' ht h
    rw [hI] at h
    obtain ⟨s1, m, acc, y, e1, hm, hb, rfl⟩ := h
    have hal : acc.length ≤ 100 := by
      have : (acc ++ digs m).length = (digs n).length := by rw [hm]
      rw [List.length_append] at this
      omega
    try simp only [tSeq, tAsg, tVar, tC, tOp, rI0, rI, tUn, rU, tIfS, tTest, tRet, tRetN, tDrop, tCB, tCons, tNil, tLst, tLstI, tTup, gName, tB, tAnd, tOr, tNot, tAndV, tOrV, tNotV, tIf, tNext, tBreak, tCont, gSub, tCall, tCallN, tAug, ipI, tBML, tBML0, isL_IL, isL_lst, L2.start, List.map_cons, List.map_nil, List.length_cons, List.length_nil, List.cons_append, List.nil_append, List.getElem?_cons_succ, List.getElem?_cons_zero, Option.some.injEq, exists_eq_left', exists_eq_left, exists_and_left, V.int.injEq, V.ref.injEq, V.bl.injEq, V.str.injEq, List.set_cons_zero, List.set_cons_succ, List.cons.injEq, and_true, true_and, Nat.reduceAdd, Nat.reduceSub, List.replicate_succ, List.replicate_zero, rIxI, rIxH, rIxTH, rSetI, rSetH, rCatI, rRepI, rSlI, rAppendI, rExtendI, decide_eq_true_eq, upd_same, IL_inj, HO.lst.injEq, toInts_cons, toInts_nil, Option.map_some, if_true, if_false, Bool.true_eq_false, Bool.false_eq_true, Bool.not_true, Bool.not_false, Bool.not_eq_true', decide_eq_false_iff_not, atI_0, atI_1, atI_2, atI_3, atI_4, Int.reduceToNat, Int.reduceLT, Int.reduceLE, Int.reduceNeg, Int.reducePow, cast_lit, upd_upd, Int.reduceAdd, Int.reduceMul, Int.reduceSub, Nat.reduceLT, Nat.reduceLeDiff, cmul_r, cdiv_r, tSl, tPart, tNoPart, rEq, rNe, scal_nn, scal_ii, scal_bb, scal_ss, scal_is, scal_si, V.ty.injEq, and_assoc, tyH_non, tyH_bl, tyH_int, tyH_str, tyH_ref, tyO_lst, tyO_IL, tyO_tup, itO_lst, itO_tup, itO_IL, Dw.rIxD, rLenI, rLenH, rLenTH, rLenQ, rLenB, rListI, Dw.rListS, rIntI, rIntB, rSumI, rIsiD, rIsX, tCallS, tMakeS, tMake, tMakeC, tMakeSC, tFld, sFld, HO.ins.injEq, HO.tup.injEq, cxOf_K, nox_K, tr_K, suite_K, rTupleI, rAllB, rAnyB, BL_inj, tChain, wOnly, wAs, wMany, rEqI, rNeI, Dw.rMax2, rMin2, Dw.rIsN, rIsNotN, rStrIn, rStrNotIn, not_true_eq_false, not_false_eq_true, reduceCtorEq, cl_bool, cl_int, cl_str, cl_list, cl_tuple, isB_NoneType_bool, isB_NoneType_int, isB_NoneType_str, isB_NoneType_list, isB_NoneType_tuple, isB_bool_bool, isB_bool_int, isB_bool_str, isB_bool_list, isB_bool_tuple, isB_int_bool, isB_int_int, isB_int_str, isB_int_list, isB_int_tuple, isB_str_bool, isB_str_int, isB_str_str, isB_str_list, isB_str_tuple, isB_list_bool, isB_list_int, isB_list_str, isB_list_list, isB_list_tuple, isB_tuple_bool, isB_tuple_int, isB_tuple_str, isB_tuple_list, isB_tuple_tuple, rSlCI, iRng3, iRev, gCons, gNil, iZip, iEnum, tLc_eq, tFor_eq, iRng1, iRng2, iList, iTup, rSetD, iKeys, tDNewK, Int.reducePow, Int.reduceNeg, iEz, tPar, tRevL, Dw.rSetL, Dw.rIxL, rIxE, iSeqA, rListTI, e1, and127]
    have ep : 100 - t = (100 - (t + 1)) + 1 := by omega
    by_cases c : (127 : Int) < (m : Int)
    · rw [if_pos c]
      have d2 : (m : Int) / 128 = ((m / 128 : Nat) : Int) := by omega
      rw [hI]
      refine ⟨line_lt (by omega), fun b o hb => ?_, m / 128, acc ++ [128 + ((m % 128 : Nat) : Int)], _, upd_same, ?_, ?_, by rw [d2]⟩
      · rw [upd_ne (ne_of_none hb hD)]
        exact s1 _ _ hb
      · rw [List.append_assoc, ← hm, digs_big (n := m) (by omega)]
        rfl
      · rw [ep, Nat.pow_succ] at hb
        rw [Nat.div_lt_iff_lt_mul (by decide)]
        exact hb
    · rw [if_neg c, hI]
      refine ⟨s1, m, acc, _, e1, hm, ?_, rfl⟩
      have : 128 ^ 1 ≤ 128 ^ (100 - (t + 1)) := Nat.pow_le_pow_right (by decide) (by omega)
      omega
  · intro σ H' h
    rw [hI] at h
    obtain ⟨s1, m, acc, y, e1, hm, hb, rfl⟩ := h
    have hal : acc.length ≤ 100 := by
      have : (acc ++ digs m).length = (digs n).length := by rw [hm]
      rw [List.length_append] at this
      omega
    try simp only [tSeq, tAsg, tVar, tC, tOp, rI0, rI, tUn, rU, tIfS, tTest, tRet, tRetN, tDrop, tCB, tCons, tNil, tLst, tLstI, tTup, gName, tB, tAnd, tOr, tNot, tAndV, tOrV, tNotV, tIf, tNext, tBreak, tCont, gSub, tCall, tCallN, tAug, ipI, tBML, tBML0, isL_IL, isL_lst, L2.start, List.map_cons, List.map_nil, List.length_cons, List.length_nil, List.cons_append, List.nil_append, List.getElem?_cons_succ, List.getElem?_cons_zero, Option.some.injEq, exists_eq_left', exists_eq_left, exists_and_left, V.int.injEq, V.ref.injEq, V.bl.injEq, V.str.injEq, List.set_cons_zero, List.set_cons_succ, List.cons.injEq, and_true, true_and, Nat.reduceAdd, Nat.reduceSub, List.replicate_succ, List.replicate_zero, rIxI, rIxH, rIxTH, rSetI, rSetH, rCatI, rRepI, rSlI, rAppendI, rExtendI, decide_eq_true_eq, upd_same, IL_inj, HO.lst.injEq, toInts_cons, toInts_nil, Option.map_some, if_true, if_false, Bool.true_eq_false, Bool.false_eq_true, Bool.not_true, Bool.not_false, Bool.not_eq_true', decide_eq_false_iff_not, atI_0, atI_1, atI_2, atI_3, atI_4, Int.reduceToNat, Int.reduceLT, Int.reduceLE, Int.reduceNeg, Int.reducePow, cast_lit, upd_upd, Int.reduceAdd, Int.reduceMul, Int.reduceSub, Nat.reduceLT, Nat.reduceLeDiff, cmul_r, cdiv_r, tSl, tPart, tNoPart, rEq, rNe, scal_nn, scal_ii, scal_bb, scal_ss, scal_is, scal_si, V.ty.injEq, and_assoc, tyH_non, tyH_bl, tyH_int, tyH_str, tyH_ref, tyO_lst, tyO_IL, tyO_tup, itO_lst, itO_tup, itO_IL, Dw.rIxD, rLenI, rLenH, rLenTH, rLenQ, rLenB, rListI, Dw.rListS, rIntI, rIntB, rSumI, rIsiD, rIsX, tCallS, tMakeS, tMake, tMakeC, tMakeSC, tFld, sFld, HO.ins.injEq, HO.tup.injEq, cxOf_K, nox_K, tr_K, suite_K, rTupleI, rAllB, rAnyB, BL_inj, tChain, wOnly, wAs, wMany, rEqI, rNeI, Dw.rMax2, rMin2, Dw.rIsN, rIsNotN, rStrIn, rStrNotIn, not_true_eq_false, not_false_eq_true, reduceCtorEq, cl_bool, cl_int, cl_str, cl_list, cl_tuple, isB_NoneType_bool, isB_NoneType_int, isB_NoneType_str, isB_NoneType_list, isB_NoneType_tuple, isB_bool_bool, isB_bool_int, isB_bool_str, isB_bool_list, isB_bool_tuple, isB_int_bool, isB_int_int, isB_int_str, isB_int_list, isB_int_tuple, isB_str_bool, isB_str_int, isB_str_str, isB_str_list, isB_str_tuple, isB_list_bool, isB_list_int, isB_list_str, isB_list_list, isB_list_tuple, isB_tuple_bool, isB_tuple_int, isB_tuple_str, isB_tuple_list, isB_tuple_tuple, rSlCI, iRng3, iRev, gCons, gNil, iZip, iEnum, tLc_eq, tFor_eq, iRng1, iRng2, iList, iTup, rSetD, iKeys, tDNewK, Int.reducePow, Int.reduceNeg, iEz, tPar, tRevL, Dw.rSetL, Dw.rIxL, rIxE, iSeqA, rListTI, e1]
    refine ⟨line_le (by decide), fun u hu => ?_⟩
    have e2 := same_new hu (IL [(m : Int)]) _ _ e1
    refine ⟨_, e2, line_le (by omega), fun v hv => ?_⟩
    refine k v _ (s1.trans ((same_new hu _).trans (same_new hv _))) (same_none (s1.trans (same_new hu _)) hv) ?_
    rw [upd_same, ← hm, digs_small (n := m) (by omega)]
def spDigitsAt : Sp := fun vs H Q E => ∃ (a : Addr) (ns : List Int) (i : Nat), vs = [.ref a, .int i] ∧ H a = some (IL ns) ∧ Bytes ns ∧ ns.length ≤ 1000000 ∧ i ≤ ns.length ∧
  (∀ v k, rdZ ns i = some (v, k) → ∀ t H', Same H H' → H t = none → H' t = some (.tup [.int v, .int (k : Int)]) → Q (.ref t) H') ∧ (rdZ ns i = none → ∀ H', Same H H' → Q .non H')
theorem ok_law_digits_at (T : Tx K mg A) : FnOk P w K mg base CX0 1 A.f_law_digits_at A.d_law_digits_at ["values", "at"] spDigitsAt := by
  refine T.F_law_digits_at.ok sc_law_digits_at (fun vs H Q E h => ?_) (fun cdv A' outer s H vs Q E hr h => ?_)
  · obtain ⟨a, ns, i, rfl, _⟩ := h
    rfl
  obtain ⟨a, ns, i, rfl, hA, hb, hlen, hil, k1, k2⟩ := h
  refine ⟨_, (pss_cons (ps_set (i := 2) sc_law_digits_at.nd rfl (Or.inl rfl) pe_int)
      (pss_cons (ps_set (i := 3) sc_law_digits_at.nd rfl (Or.inl rfl) pe_int)
      (pss_cons (ps_for PassesOwn.never rfl (pi_range2 rfl T.z_range (pa_cons (pv 1) (pa_cons (pe_callB call_lenI (by rfl) T.z_len (by decide +kernel) (pa_cons (pv 0) pa_nil)) pa_nil))) (pg_name (i := 4) sc_law_digits_at.nd rfl (Or.inl rfl))
        (pss_cons (ps_if (pt_cmpR op_lt (pe_ix ix_listI (pv 0) (pv 4) (fun _ _ => rfl)) pe_int (nomark _)) (pss_one (ps_ret (pe_ifExp (PW.pt (pw_and (pt_cmpR op_eq (pe_ix ix_listI (pv 0) (pv 4) (fun _ _ => rfl)) pe_int (nomark _)) (pw_and1 (pt_cmpR op_gt (pv 4) (pv 1) (nomark _))))) pe_non (pe_tup (pa_cons (pe_op op_add (pv 2) (pe_op op_mul (pv 3) (pe_ix ix_listI (pv 0) (pv 4) (fun _ _ => rfl)))) (pa_cons (pe_op op_add (pv 4) pe_int) pa_nil)))))) pss_nil)
      (pss_cons (ps_set (i := 2) sc_law_digits_at.nd rfl (Or.inl rfl) (pe_op op_add (pv 2) (pe_op op_mul (pv 3) (pe_op op_sub (pe_ix ix_listI (pv 0) (pv 4) (fun _ _ => rfl)) pe_int))))
      (pss_one (ps_set (i := 3) sc_law_digits_at.nd rfl (Or.inl rfl) (pe_op op_mul (pv 3) pe_int))))))
      (pss_one (ps_ret pe_non))))), ?_⟩
  have hge : ∀ j, (ns.drop i)[j]? = ns[i + j]? := fun j => by rw [List.getElem?_drop]
  have hll := lead_le (ns.drop i)
  rw [List.length_drop] at hll
  try simp only [tSeq, tAsg, tVar, tC, tOp, rI0, rI, tUn, rU, tIfS, tTest, tRet, tRetN, tDrop, tCB, tCons, tNil, tLst, tLstI, tTup, gName, tB, tAnd, tOr, tNot, tAndV, tOrV, tNotV, tIf, tNext, tBreak, tCont, gSub, tCall, tCallN, tAug, ipI, tBML, tBML0, isL_IL, isL_lst, L2.start, List.map_cons, List.map_nil, List.length_cons, List.length_nil, List.cons_append, List.nil_append, List.getElem?_cons_succ, List.getElem?_cons_zero, Option.some.injEq, exists_eq_left', exists_eq_left, exists_and_left, V.int.injEq, V.ref.injEq, V.bl.injEq, V.str.injEq, List.set_cons_zero, List.set_cons_succ, List.cons.injEq, and_true, true_and, Nat.reduceAdd, Nat.reduceSub, List.replicate_succ, List.replicate_zero, rIxI, rIxH, rIxTH, rSetI, rSetH, rCatI, rRepI, rSlI, rAppendI, rExtendI, decide_eq_true_eq, upd_same, IL_inj, HO.lst.injEq, toInts_cons, toInts_nil, Option.map_some, if_true, if_false, Bool.true_eq_false, Bool.false_eq_true, Bool.not_true, Bool.not_false, Bool.not_eq_true', decide_eq_false_iff_not, atI_0, atI_1, atI_2, atI_3, atI_4, Int.reduceToNat, Int.reduceLT, Int.reduceLE, Int.reduceNeg, Int.reducePow, cast_lit, upd_upd, Int.reduceAdd, Int.reduceMul, Int.reduceSub, Nat.reduceLT, Nat.reduceLeDiff, cmul_r, cdiv_r, tSl, tPart, tNoPart, rEq, rNe, scal_nn, scal_ii, scal_bb, scal_ss, scal_is, scal_si, V.ty.injEq, and_assoc, tyH_non, tyH_bl, tyH_int, tyH_str, tyH_ref, tyO_lst, tyO_IL, tyO_tup, itO_lst, itO_tup, itO_IL, Dw.rIxD, rLenI, rLenH, rLenTH, rLenQ, rLenB, rListI, Dw.rListS, rIntI, rIntB, rSumI, rIsiD, rIsX, tCallS, tMakeS, tMake, tMakeC, tMakeSC, tFld, sFld, HO.ins.injEq, HO.tup.injEq, cxOf_K, nox_K, tr_K, suite_K, rTupleI, rAllB, rAnyB, BL_inj, tChain, wOnly, wAs, wMany, rEqI, rNeI, Dw.rMax2, rMin2, Dw.rIsN, rIsNotN, rStrIn, rStrNotIn, not_true_eq_false, not_false_eq_true, reduceCtorEq, cl_bool, cl_int, cl_str, cl_list, cl_tuple, isB_NoneType_bool, isB_NoneType_int, isB_NoneType_str, isB_NoneType_list, isB_NoneType_tuple, isB_bool_bool, isB_bool_int, isB_bool_str, isB_bool_list, isB_bool_tuple, isB_int_bool, isB_int_int, isB_int_str, isB_int_list, isB_int_tuple, isB_str_bool, isB_str_int, isB_str_str, isB_str_list, isB_str_tuple, isB_list_bool, isB_list_int, isB_list_str, isB_list_list, isB_list_tuple, isB_tuple_bool, isB_tuple_int, isB_tuple_str, isB_tuple_list, isB_tuple_tuple, rSlCI, iRng3, iRev, gCons, gNil, iZip, iEnum, tLc_eq, tFor_eq, iRng1, iRng2, iList, iTup, rSetD, iKeys, tDNewK, Int.reducePow, Int.reduceNeg, iEz, tPar, tRevL, Dw.rSetL, Dw.rIxL, rIxE, iSeqA, rListTI, hA]
  refine ⟨by omega, by omega, by omega, by omega, ?_⟩
  obtain ⟨I, hI⟩ : ∃ F : Nat → L2.St → Hp → Prop, F = (fun t σ H' => H' = H ∧ t ≤ lead (ns.drop i) ∧ ∃ y, σ = [some (.ref a), some (.int (i : Int)), some (.int (valD ((ns.drop i).take t))), some (.int (128 ^ t)), y]) := ⟨_, rfl⟩
  refine for_range (lo := (i : Int)) (n := ((ns.length : Int) - (i : Int)).toNat) I (by rw [hI]; exact ⟨rfl, Nat.zero_le _, none, rfl⟩) ?_ ?_
  · intro t σ H' ht h
    rw [hI] at h
    obtain ⟨rfl, hle, y, rfl⟩ := h
    have hlt : i + t < ns.length := by omega
    have hx : ns[i + t]? = some (ns.getD (i + t) 0) := by rw [List.getD_eq_getElem?_getD, List.getElem?_eq_getElem hlt]; rfl
    have hbx := hb _ (List.mem_of_getElem? hx)
    have e1 : (i : Int) + (t : Int) = ((i + t : Nat) : Int) := by omega
    have cm : ∀ x y : Int, CMul x y = (CMul x y) := fun _ _ => rfl
    try simp only [tSeq, tAsg, tVar, tC, tOp, rI0, rI, tUn, rU, tIfS, tTest, tRet, tRetN, tDrop, tCB, tCons, tNil, tLst, tLstI, tTup, gName, tB, tAnd, tOr, tNot, tAndV, tOrV, tNotV, tIf, tNext, tBreak, tCont, gSub, tCall, tCallN, tAug, ipI, tBML, tBML0, isL_IL, isL_lst, L2.start, List.map_cons, List.map_nil, List.length_cons, List.length_nil, List.cons_append, List.nil_append, List.getElem?_cons_succ, List.getElem?_cons_zero, Option.some.injEq, exists_eq_left', exists_eq_left, exists_and_left, V.int.injEq, V.ref.injEq, V.bl.injEq, V.str.injEq, List.set_cons_zero, List.set_cons_succ, List.cons.injEq, and_true, true_and, Nat.reduceAdd, Nat.reduceSub, List.replicate_succ, List.replicate_zero, rIxI, rIxH, rIxTH, rSetI, rSetH, rCatI, rRepI, rSlI, rAppendI, rExtendI, decide_eq_true_eq, upd_same, IL_inj, HO.lst.injEq, toInts_cons, toInts_nil, Option.map_some, if_true, if_false, Bool.true_eq_false, Bool.false_eq_true, Bool.not_true, Bool.not_false, Bool.not_eq_true', decide_eq_false_iff_not, atI_0, atI_1, atI_2, atI_3, atI_4, Int.reduceToNat, Int.reduceLT, Int.reduceLE, Int.reduceNeg, Int.reducePow, cast_lit, upd_upd, Int.reduceAdd, Int.reduceMul, Int.reduceSub, Nat.reduceLT, Nat.reduceLeDiff, cmul_r, cdiv_r, tSl, tPart, tNoPart, rEq, rNe, scal_nn, scal_ii, scal_bb, scal_ss, scal_is, scal_si, V.ty.injEq, and_assoc, tyH_non, tyH_bl, tyH_int, tyH_str, tyH_ref, tyO_lst, tyO_IL, tyO_tup, itO_lst, itO_tup, itO_IL, Dw.rIxD, rLenI, rLenH, rLenTH, rLenQ, rLenB, rListI, Dw.rListS, rIntI, rIntB, rSumI, rIsiD, rIsX, tCallS, tMakeS, tMake, tMakeC, tMakeSC, tFld, sFld, HO.ins.injEq, HO.tup.injEq, cxOf_K, nox_K, tr_K, suite_K, rTupleI, rAllB, rAnyB, BL_inj, tChain, wOnly, wAs, wMany, rEqI, rNeI, Dw.rMax2, rMin2, Dw.rIsN, rIsNotN, rStrIn, rStrNotIn, not_true_eq_false, not_false_eq_true, reduceCtorEq, cl_bool, cl_int, cl_str, cl_list, cl_tuple, isB_NoneType_bool, isB_NoneType_int, isB_NoneType_str, isB_NoneType_list, isB_NoneType_tuple, isB_bool_bool, isB_bool_int, isB_bool_str, isB_bool_list, isB_bool_tuple, isB_int_bool, isB_int_int, isB_int_str, isB_int_list, isB_int_tuple, isB_str_bool, isB_str_int, isB_str_str, isB_str_list, isB_str_tuple, isB_list_bool, isB_list_int, isB_list_str, isB_list_list, isB_list_tuple, isB_tuple_bool, isB_tuple_int, isB_tuple_str, isB_tuple_list, isB_tuple_tuple, rSlCI, iRng3, iRev, gCons, gNil, iZip, iEnum, tLc_eq, tFor_eq, iRng1, iRng2, iList, iTup, rSetD, iKeys, tDNewK, Int.reducePow, Int.reduceNeg, iEz, tPar, tRevL, Dw.rSetL, Dw.rIxL, rIxE, iSeqA, rListTI, hA, e1, Int.toNat_natCast]
    have hdl : ((ns.drop i).take t).length = t := by rw [List.length_take, List.length_drop]; omega
    have htk : (ns.drop i).take (t + 1) = (ns.drop i).take t ++ [ns.getD (i + t) 0] := take_more (by rw [hge]; exact hx)
    have hval : valD ((ns.drop i).take (t + 1)) = valD ((ns.drop i).take t) + 128 ^ t * (ns.getD (i + t) 0 % 128) := by rw [htk, valD_snoc, hdl]
    refine ⟨by omega, by omega, ?_⟩
    by_cases c : ns.getD (i + t) 0 < 128
    · rw [if_pos c]
      have hlead : lead (ns.drop i) = t := lead_eq hle (by rw [hge]; exact hx) (by omega)
      have hm : ns.getD (i + t) 0 % 128 = ns.getD (i + t) 0 := by omega
      rw [hm] at hval
      have hrd : rdZ ns i = if i + t < ns.length ∧ ¬ (0 < t ∧ ns.getD (i + t) 0 = 0) then some (valD ((ns.drop i).take (t + 1)), i + t + 1) else none := by
        unfold rdZ
        simp only [hlead]
      have fin : ¬ (0 < t ∧ ns.getD (i + t) 0 = 0) → 0 ≤ ((i + t : Nat) : Int) ∧ ((i + t : Nat) : Int) < ns.length ∧ CMul (128 ^ t) (ns.getD (i + t) 0) ∧ 2 ≤ sizeLine ∧ ∀ (p : Addr), H' p = none → Q (V.ref p) (upd H' p (HO.tup [V.int (valD (List.take t (List.drop i ns)) + 128 ^ t * ns.getD (i + t) 0), V.int (((i + t : Nat) : Int) + 1)])) := by
        intro hn
        rw [if_pos ⟨hlt, hn⟩] at hrd
        refine ⟨by omega, by omega, .inr ⟨by omega, by omega⟩, line_le (by decide), fun p hp => k1 _ _ hrd p _ (same_new hp _) hp ?_⟩
        rw [upd_same, hval]
        rfl
      refine ⟨by omega, by omega, ?_⟩
      by_cases c2 : ns.getD (i + t) 0 = 0
      · rw [if_pos c2]
        by_cases c3 : (i : Int) < ((i + t : Nat) : Int)
        · rw [if_pos c3]
          refine k2 ?_ _ (Same.refl _)
          rw [hrd, if_neg (fun h => h.2 ⟨by omega, c2⟩)]
        · rw [if_neg c3]
          exact fin fun h => by omega
      · rw [if_neg c2]
        exact fin fun h => c2 h.2
    · rw [if_neg c]
      have hne : t ≠ lead (ns.drop i) := fun e => lead_stop (ns := ns.drop i) (by rw [← e, hge]; exact hx) (by omega)
      have hm : ns.getD (i + t) 0 % 128 = ns.getD (i + t) 0 - 128 := by omega
      rw [hm] at hval
      refine ⟨by omega, by omega, .inr ⟨by omega, by omega⟩, ?_⟩
      rw [hI]
      exact ⟨rfl, by omega, _, by rw [hval, Int.pow_succ]⟩
  · intro σ H' h
    rw [hI] at h
    obtain ⟨rfl, hle, y, rfl⟩ := h
    try simp only [tSeq, tAsg, tVar, tC, tOp, rI0, rI, tUn, rU, tIfS, tTest, tRet, tRetN, tDrop, tCB, tCons, tNil, tLst, tLstI, tTup, gName, tB, tAnd, tOr, tNot, tAndV, tOrV, tNotV, tIf, tNext, tBreak, tCont, gSub, tCall, tCallN, tAug, ipI, tBML, tBML0, isL_IL, isL_lst, L2.start, List.map_cons, List.map_nil, List.length_cons, List.length_nil, List.cons_append, List.nil_append, List.getElem?_cons_succ, List.getElem?_cons_zero, Option.some.injEq, exists_eq_left', exists_eq_left, exists_and_left, V.int.injEq, V.ref.injEq, V.bl.injEq, V.str.injEq, List.set_cons_zero, List.set_cons_succ, List.cons.injEq, and_true, true_and, Nat.reduceAdd, Nat.reduceSub, List.replicate_succ, List.replicate_zero, rIxI, rIxH, rIxTH, rSetI, rSetH, rCatI, rRepI, rSlI, rAppendI, rExtendI, decide_eq_true_eq, upd_same, IL_inj, HO.lst.injEq, toInts_cons, toInts_nil, Option.map_some, if_true, if_false, Bool.true_eq_false, Bool.false_eq_true, Bool.not_true, Bool.not_false, Bool.not_eq_true', decide_eq_false_iff_not, atI_0, atI_1, atI_2, atI_3, atI_4, Int.reduceToNat, Int.reduceLT, Int.reduceLE, Int.reduceNeg, Int.reducePow, cast_lit, upd_upd, Int.reduceAdd, Int.reduceMul, Int.reduceSub, Nat.reduceLT, Nat.reduceLeDiff, cmul_r, cdiv_r, tSl, tPart, tNoPart, rEq, rNe, scal_nn, scal_ii, scal_bb, scal_ss, scal_is, scal_si, V.ty.injEq, and_assoc, tyH_non, tyH_bl, tyH_int, tyH_str, tyH_ref, tyO_lst, tyO_IL, tyO_tup, itO_lst, itO_tup, itO_IL, Dw.rIxD, rLenI, rLenH, rLenTH, rLenQ, rLenB, rListI, Dw.rListS, rIntI, rIntB, rSumI, rIsiD, rIsX, tCallS, tMakeS, tMake, tMakeC, tMakeSC, tFld, sFld, HO.ins.injEq, HO.tup.injEq, cxOf_K, nox_K, tr_K, suite_K, rTupleI, rAllB, rAnyB, BL_inj, tChain, wOnly, wAs, wMany, rEqI, rNeI, Dw.rMax2, rMin2, Dw.rIsN, rIsNotN, rStrIn, rStrNotIn, not_true_eq_false, not_false_eq_true, reduceCtorEq, cl_bool, cl_int, cl_str, cl_list, cl_tuple, isB_NoneType_bool, isB_NoneType_int, isB_NoneType_str, isB_NoneType_list, isB_NoneType_tuple, isB_bool_bool, isB_bool_int, isB_bool_str, isB_bool_list, isB_bool_tuple, isB_int_bool, isB_int_int, isB_int_str, isB_int_list, isB_int_tuple, isB_str_bool, isB_str_int, isB_str_str, isB_str_list, isB_str_tuple, isB_list_bool, isB_list_int, isB_list_str, isB_list_list, isB_list_tuple, isB_tuple_bool, isB_tuple_int, isB_tuple_str, isB_tuple_list, isB_tuple_tuple, rSlCI, iRng3, iRev, gCons, gNil, iZip, iEnum, tLc_eq, tFor_eq, iRng1, iRng2, iList, iTup, rSetD, iKeys, tDNewK, Int.reducePow, Int.reduceNeg, iEz, tPar, tRevL, Dw.rSetL, Dw.rIxL, rIxE, iSeqA, rListTI]
    refine k2 ?_ _ (Same.refl _)
    unfold rdZ
    simp only
    rw [if_neg (fun h => by omega)]
end
section
variable {P : Program} {w : World} {K : PySem.W.Frag} {mg : Str → Option Value} {base : Heap} {A : Ad}
def spSealed : Sp := fun vs H Q _ => ∃ (a : Addr) (ns : List Int), vs = [.ref a] ∧ H a = some (IL ns) ∧ Bytes ns ∧ ns.length ≤ 10000 ∧ ∀ r H', Same H H' → H r = none → H' r = some (IL (ns ++ [crcZ ns / 256, crcZ ns % 256])) → Q (.ref r) H'
theorem ok_law_sealed (T : Tx K mg A) : FnOk P w K mg base CX0 3 A.f_law_sealed A.d_law_sealed ["values"] spSealed := by
  refine T.F_law_sealed.ok sc_law_sealed (fun vs H Q E h => ?_) (fun cdv A' outer s H vs Q E hr h => ?_)
  · obtain ⟨a, ns, rfl, _⟩ := h
    rfl
  obtain ⟨a, ns, rfl, hA, hb, hl, k⟩ := h
  refine ⟨_, (pss_one (ps_ret (pe_op op_catI (pv 0) (pe_call (ok_law_pair T) (hr.mono (by decide)) rfl T.g_law_pair T.F_law_pair.kp T.b_law_pair .nil pass0 (pa_cons (pe_call (ok_law_check T) (hr.mono (by decide)) rfl T.g_law_check T.F_law_check.kp T.b_law_check .nil pass0 (pa_cons (pv 0) pa_nil)) pa_nil))))), ?_⟩
  try simp only [tSeq, tAsg, tVar, tC, tOp, rI0, rI, tUn, rU, tIfS, tTest, tRet, tRetN, tDrop, tCB, tCons, tNil, tLst, tLstI, tTup, gName, tB, tAnd, tOr, tNot, tAndV, tOrV, tNotV, tIf, tNext, tBreak, tCont, gSub, tCall, tCallN, tAug, ipI, tBML, tBML0, isL_IL, isL_lst, L2.start, List.map_cons, List.map_nil, List.length_cons, List.length_nil, List.cons_append, List.nil_append, List.getElem?_cons_succ, List.getElem?_cons_zero, Option.some.injEq, exists_eq_left', exists_eq_left, exists_and_left, V.int.injEq, V.ref.injEq, V.bl.injEq, V.str.injEq, List.set_cons_zero, List.set_cons_succ, List.cons.injEq, and_true, true_and, Nat.reduceAdd, Nat.reduceSub, List.replicate_succ, List.replicate_zero, rIxI, rIxH, rIxTH, rSetI, rSetH, rCatI, rRepI, rSlI, rAppendI, rExtendI, decide_eq_true_eq, upd_same, IL_inj, HO.lst.injEq, toInts_cons, toInts_nil, Option.map_some, if_true, if_false, Bool.true_eq_false, Bool.false_eq_true, Bool.not_true, Bool.not_false, Bool.not_eq_true', decide_eq_false_iff_not, atI_0, atI_1, atI_2, atI_3, atI_4, Int.reduceToNat, Int.reduceLT, Int.reduceLE, Int.reduceNeg, Int.reducePow, cast_lit, upd_upd, Int.reduceAdd, Int.reduceMul, Int.reduceSub, Nat.reduceLT, Nat.reduceLeDiff, cmul_r, cdiv_r, tSl, tPart, tNoPart, rEq, rNe, scal_nn, scal_ii, scal_bb, scal_ss, scal_is, scal_si, V.ty.injEq, and_assoc, tyH_non, tyH_bl, tyH_int, tyH_str, tyH_ref, tyO_lst, tyO_IL, tyO_tup, itO_lst, itO_tup, itO_IL, Dw.rIxD, rLenI, rLenH, rLenTH, rLenQ, rLenB, rListI, Dw.rListS, rIntI, rIntB, rSumI, rIsiD, rIsX, tCallS, tMakeS, tMake, tMakeC, tMakeSC, tFld, sFld, HO.ins.injEq, HO.tup.injEq, cxOf_K, nox_K, tr_K, suite_K, rTupleI, rAllB, rAnyB, BL_inj, tChain, wOnly, wAs, wMany, rEqI, rNeI, Dw.rMax2, rMin2, Dw.rIsN, rIsNotN, rStrIn, rStrNotIn, not_true_eq_false, not_false_eq_true, reduceCtorEq, cl_bool, cl_int, cl_str, cl_list, cl_tuple, isB_NoneType_bool, isB_NoneType_int, isB_NoneType_str, isB_NoneType_list, isB_NoneType_tuple, isB_bool_bool, isB_bool_int, isB_bool_str, isB_bool_list, isB_bool_tuple, isB_int_bool, isB_int_int, isB_int_str, isB_int_list, isB_int_tuple, isB_str_bool, isB_str_int, isB_str_str, isB_str_list, isB_str_tuple, isB_list_bool, isB_list_int, isB_list_str, isB_list_list, isB_list_tuple, isB_tuple_bool, isB_tuple_int, isB_tuple_str, isB_tuple_list, isB_tuple_tuple, rSlCI, iRng3, iRev, gCons, gNil, iZip, iEnum, tLc_eq, tFor_eq, iRng1, iRng2, iList, iTup, rSetD, iKeys, tDNewK, Int.reducePow, Int.reduceNeg, iEz, tPar, tRevL, Dw.rSetL, Dw.rIxL, rIxE, iSeqA, rListTI, hA]
  refine ⟨a, ns, rfl, hA, hb, _, rfl, fun u1 nu1 => ⟨u1, rfl, ns, same_new nu1 _ _ _ hA, _, upd_same, line_le (by show ns.length + 2 ≤ _; omega), fun u2 nu2 => ?_⟩⟩
  exact k u2 _ ((same_new nu1 _).trans (same_new nu2 _)) (same_none (same_new nu1 _) nu2) upd_same
/-- changes that can be written one behind the other -/
def Row : Int → List Ch → Prop
  | _, [] => True
  | e, c :: r => e ≤ c.1 ∧ (c.1 - e).toNat < 128 ^ 100 ∧ Bytes c.2.1 ∧ Bytes c.2.2 ∧ Row (c.1 + c.2.1.length) r
theorem row_bytes_pb : ∀ {cs : List Ch} {e : Int}, Row e cs → Bytes (pbZ e cs)
  | [], _, _ => fun z hz => by cases hz
  | d :: r, e, h => by
    obtain ⟨h1, h2, h3, h4, h5⟩ := h
    have ih := row_bytes_pb h5
    intro z hz
    replace hz : z ∈ digs (d.1 - e).toNat ++ digs d.2.1.length ++ digs d.2.2.length ++ d.2.1 ++ d.2.2 ++ pbZ (d.1 + d.2.1.length) r := hz
    simp only [List.mem_append] at hz
    rcases hz with ((((q | q) | q) | q) | q) | q
    · exact digs_bytes _ z q
    · exact digs_bytes _ z q
    · exact digs_bytes _ z q
    · exact h3 z q
    · exact h4 z q
    · exact ih z q
theorem row_bytes {cs : List Ch} (h : Row 0 cs) : Bytes (bodyZ cs) := by
  intro z hz
  replace hz : z ∈ [80, 65] ++ digs cs.length ++ pbZ 0 cs := hz
  simp only [List.mem_append] at hz
  rcases hz with (q | q) | q
  · rcases List.mem_cons.mp q with e | e
    · rw [e]; decide
    · rw [List.mem_singleton.mp e]; decide
  · exact digs_bytes _ z q
  · exact row_bytes_pb h z q
def spRow (K : PySem.W.Frag) : Sp := fun vs H Q _ => ∃ (a : Addr) (xs : List V) (cs : List Ch), vs = [.ref a] ∧ H a = some (.lst xs) ∧ ChsAt H xs cs ∧ Row 0 cs ∧ cs.length ≤ 500 ∧ (bodyZ cs).length ≤ 4000 ∧ ∀ r H', Same H H' → H r = none → H' r = some (IL (bytesP cs)) → Q (.ref r) H'
theorem ok_law_patch_row (T : Tx K mg A) : FnOk P w K mg base CX0 4 A.f_law_patch_row A.d_law_patch_row ["changes"] (spRow K) := by
  refine T.F_law_patch_row.ok sc_law_patch_row (fun vs H Q E h => ?_) (fun cdv A' outer s H vs Q E hr h => ?_)
  · obtain ⟨a, xs, cs, rfl, _⟩ := h
    rfl
  obtain ⟨a, xs, cs, rfl, hA, hC, hR, hl, hbl, k⟩ := h
  have hxl : xs.length = cs.length := hC.1
  refine ⟨_, (pss_cons (ps_set (i := 1) sc_law_patch_row.nd rfl (Or.inl rfl) (pe_op op_catI (pe_lstI (pa_cons pe_int (pa_cons pe_int pa_nil))) (pe_call (ok_law_digits T) (hr.mono (by decide)) rfl T.g_law_digits T.F_law_digits.kp T.b_law_digits .nil pass0 (pa_cons (pe_callB call_lenH (by rfl) T.z_len (by decide +kernel) (pa_cons (pv 0) pa_nil)) pa_nil))))
      (pss_cons (ps_set (i := 2) sc_law_patch_row.nd rfl (Or.inl rfl) pe_int)
      (pss_cons (ps_for PassesOwn.never rfl (pi_list (pv 0)) (pg_tup (n := 3) rfl (pgs_cons (pg_name (i := 3) sc_law_patch_row.nd rfl (Or.inl rfl)) (pgs_cons (pg_name (i := 4) sc_law_patch_row.nd rfl (Or.inl rfl)) (pgs_cons (pg_name (i := 5) sc_law_patch_row.nd rfl (Or.inl rfl)) pgs_nil))))
        (pss_cons (ps_set (i := 1) sc_law_patch_row.nd rfl (Or.inl rfl) (pe_op op_catI (pe_op op_catI (pe_op op_catI (pe_op op_catI (pe_op op_catI (pv 1) (pe_call (ok_law_digits T) (hr.mono (by decide)) rfl T.g_law_digits T.F_law_digits.kp T.b_law_digits .nil pass0 (pa_cons (pe_op op_sub (pv 3) (pv 2)) pa_nil))) (pe_call (ok_law_digits T) (hr.mono (by decide)) rfl T.g_law_digits T.F_law_digits.kp T.b_law_digits .nil pass0 (pa_cons (pe_callB call_lenQ (by rfl) T.z_len (by decide +kernel) (pa_cons (pv 4) pa_nil)) pa_nil))) (pe_call (ok_law_digits T) (hr.mono (by decide)) rfl T.g_law_digits T.F_law_digits.kp T.b_law_digits .nil pass0 (pa_cons (pe_callB call_lenQ (by rfl) T.z_len (by decide +kernel) (pa_cons (pv 5) pa_nil)) pa_nil))) (pe_callTy (show CallR _ (.type "list") (rListTI K) from call_listTI) (by rfl) T.z_list (by decide +kernel) (pa_cons (pv 4) pa_nil))) (pe_callTy (show CallR _ (.type "list") (rListTI K) from call_listTI) (by rfl) T.z_list (by decide +kernel) (pa_cons (pv 5) pa_nil))))
      (pss_one (ps_set (i := 2) sc_law_patch_row.nd rfl (Or.inl rfl) (pe_op op_add (pv 3) (pe_callB call_lenQ (by rfl) T.z_len (by decide +kernel) (pa_cons (pv 4) pa_nil)))))))
      (pss_one (ps_ret (pe_call (ok_law_sealed T) (hr.mono (by decide)) rfl T.g_law_sealed T.F_law_sealed.kp T.b_law_sealed .nil pass0 (pa_cons (pv 1) pa_nil))))))), ?_⟩
  try simp only [tSeq, tAsg, tVar, tC, tOp, rI0, rI, tUn, rU, tIfS, tTest, tRet, tRetN, tDrop, tCB, tCons, tNil, tLst, tLstI, tTup, gName, tB, tAnd, tOr, tNot, tAndV, tOrV, tNotV, tIf, tNext, tBreak, tCont, gSub, tCall, tCallN, tAug, ipI, tBML, tBML0, isL_IL, isL_lst, L2.start, List.map_cons, List.map_nil, List.length_cons, List.length_nil, List.cons_append, List.nil_append, List.getElem?_cons_succ, List.getElem?_cons_zero, Option.some.injEq, exists_eq_left', exists_eq_left, exists_and_left, V.int.injEq, V.ref.injEq, V.bl.injEq, V.str.injEq, List.set_cons_zero, List.set_cons_succ, List.cons.injEq, and_true, true_and, Nat.reduceAdd, Nat.reduceSub, List.replicate_succ, List.replicate_zero, rIxI, rIxH, rIxTH, rSetI, rSetH, rCatI, rRepI, rSlI, rAppendI, rExtendI, decide_eq_true_eq, upd_same, IL_inj, HO.lst.injEq, toInts_cons, toInts_nil, Option.map_some, if_true, if_false, Bool.true_eq_false, Bool.false_eq_true, Bool.not_true, Bool.not_false, Bool.not_eq_true', decide_eq_false_iff_not, atI_0, atI_1, atI_2, atI_3, atI_4, Int.reduceToNat, Int.reduceLT, Int.reduceLE, Int.reduceNeg, Int.reducePow, cast_lit, upd_upd, Int.reduceAdd, Int.reduceMul, Int.reduceSub, Nat.reduceLT, Nat.reduceLeDiff, cmul_r, cdiv_r, tSl, tPart, tNoPart, rEq, rNe, scal_nn, scal_ii, scal_bb, scal_ss, scal_is, scal_si, V.ty.injEq, and_assoc, tyH_non, tyH_bl, tyH_int, tyH_str, tyH_ref, tyO_lst, tyO_IL, tyO_tup, itO_lst, itO_tup, itO_IL, Dw.rIxD, rLenI, rLenH, rLenTH, rLenQ, rLenB, rListI, Dw.rListS, rIntI, rIntB, rSumI, rIsiD, rIsX, tCallS, tMakeS, tMake, tMakeC, tMakeSC, tFld, sFld, HO.ins.injEq, HO.tup.injEq, cxOf_K, nox_K, tr_K, suite_K, rTupleI, rAllB, rAnyB, BL_inj, tChain, wOnly, wAs, wMany, rEqI, rNeI, Dw.rMax2, rMin2, Dw.rIsN, rIsNotN, rStrIn, rStrNotIn, not_true_eq_false, not_false_eq_true, reduceCtorEq, cl_bool, cl_int, cl_str, cl_list, cl_tuple, isB_NoneType_bool, isB_NoneType_int, isB_NoneType_str, isB_NoneType_list, isB_NoneType_tuple, isB_bool_bool, isB_bool_int, isB_bool_str, isB_bool_list, isB_bool_tuple, isB_int_bool, isB_int_int, isB_int_str, isB_int_list, isB_int_tuple, isB_str_bool, isB_str_int, isB_str_str, isB_str_list, isB_str_tuple, isB_list_bool, isB_list_int, isB_list_str, isB_list_list, isB_list_tuple, isB_tuple_bool, isB_tuple_int, isB_tuple_str, isB_tuple_list, isB_tuple_tuple, rSlCI, iRng3, iRev, gCons, gNil, iZip, iEnum, tLc_eq, tFor_eq, iRng1, iRng2, iList, iTup, rSetD, iKeys, tDNewK, Int.reducePow, Int.reduceNeg, iEz, tPar, tRevL, Dw.rSetL, Dw.rIxL, rIxE, iSeqA, rListTI, hA]
  refine ⟨line_le (by decide), fun u1 nu1 => ?_⟩
  have su1 := same_new nu1 (IL [80, 65])
  have eu1 : upd H u1 (IL [80, 65]) u1 = _ := upd_same
  generalize upd H u1 (IL [80, 65]) = H1 at su1 eu1  ⊢
  refine ⟨_, su1 _ _ hA, ?_⟩
  rw [hxl]
  have dl := digs_len 1 cs.length (by show _ < 16384; omega)
  refine ⟨cs.length, rfl, by have pw : (2 : Nat) ^ 14 ≤ 128 ^ 100 := by decide +kernel
                             omega, fun u2 H2 su2 nu2 eu2 => ⟨u2, rfl, _, su2 _ _ eu1, _, eu2, line_le (by show 2 + _ ≤ _; omega), fun u3 nu3 => ?_⟩⟩
  have su3 := same_new nu3 (IL ([80, 65] ++ digs cs.length))
  have eu3 : upd H2 u3 (IL ([80, 65] ++ digs cs.length)) u3 = _ := upd_same
  generalize upd H2 u3 (IL ([80, 65] ++ digs cs.length)) = H3 at su3 eu3  ⊢
  have s13 := su1.trans (su2.trans su3)
  refine ⟨⟨_, .of (s13 _ _ hA)⟩, ?_⟩
  obtain ⟨I, hI⟩ : ∃ F : Nat → L2.St → Hp → Prop, F = (fun i σ H' => Same H H' ∧ ∃ (p : Addr) (acc : List Int) (e : Int) (y3 y4 y5 : Option V), H' p = some (IL acc) ∧ Row e (cs.drop i) ∧ bodyZ cs = acc ++ pbZ e (cs.drop i) ∧ σ = [some (V.ref a), some (V.ref p), some (V.int e), y3, y4, y5]) := ⟨_, rfl⟩
  refine forL (xs := xs) I (by rw [hI]; exact ⟨s13, u3, _, 0, _, _, _, eu3, hR, rfl, rfl⟩) (fun i σ H' _ h => by rw [hI] at h; exact .of (h.1 _ _ hA)) ?_ ?_
  · intro i v σ H' hi h
    rw [hI] at h
    obtain ⟨s4, p, acc, e, y3, y4, y5, ea, hf, hb, rfl⟩ := h
    obtain ⟨⟨z, o, n⟩, hc, t3, ao, an, rfl, p1, p2, p3⟩ := hC.2 i v hi
    simp only at p1 p2 p3
    have q1 := s4 _ _ p1
    have q2 := s4 _ _ p2
    have q3 := s4 _ _ p3
    rw [chain_at hc] at hf hb
    obtain ⟨f1, f2, f3, f4, f5⟩ := hf
    simp only at f1 f2 f3 f4 f5
    obtain ⟨k1, hk1⟩ := Int.eq_ofNat_of_zero_le (show 0 ≤ z - e by omega)
    have hk2 : (z - e).toNat = k1 := by omega
    rw [hk2] at f2
    rw [pbZ_more] at hb
    simp only [hk2] at hb
    have h9 : (acc ++ digs k1 ++ digs o.length ++ digs n.length ++ o ++ n ++ pbZ (z + o.length) (cs.drop (i + 1))).length ≤ 4000 := by
      rw [← hb]
      exact hbl
    simp only [List.length_append] at h9
    have pw : (2 : Nat) ^ 14 ≤ 128 ^ 100 := by decide +kernel
    refine ⟨t3, _, rfl, .of q1, rfl, ?_⟩
    try simp only [tSeq, tAsg, tVar, tC, tOp, rI0, rI, tUn, rU, tIfS, tTest, tRet, tRetN, tDrop, tCB, tCons, tNil, tLst, tLstI, tTup, gName, tB, tAnd, tOr, tNot, tAndV, tOrV, tNotV, tIf, tNext, tBreak, tCont, gSub, tCall, tCallN, tAug, ipI, tBML, tBML0, isL_IL, isL_lst, L2.start, List.map_cons, List.map_nil, List.length_cons, List.length_nil, List.cons_append, List.nil_append, List.getElem?_cons_succ, List.getElem?_cons_zero, Option.some.injEq, exists_eq_left', exists_eq_left, exists_and_left, V.int.injEq, V.ref.injEq, V.bl.injEq, V.str.injEq, List.set_cons_zero, List.set_cons_succ, List.cons.injEq, and_true, true_and, Nat.reduceAdd, Nat.reduceSub, List.replicate_succ, List.replicate_zero, rIxI, rIxH, rIxTH, rSetI, rSetH, rCatI, rRepI, rSlI, rAppendI, rExtendI, decide_eq_true_eq, upd_same, IL_inj, HO.lst.injEq, toInts_cons, toInts_nil, Option.map_some, if_true, if_false, Bool.true_eq_false, Bool.false_eq_true, Bool.not_true, Bool.not_false, Bool.not_eq_true', decide_eq_false_iff_not, atI_0, atI_1, atI_2, atI_3, atI_4, Int.reduceToNat, Int.reduceLT, Int.reduceLE, Int.reduceNeg, Int.reducePow, cast_lit, upd_upd, Int.reduceAdd, Int.reduceMul, Int.reduceSub, Nat.reduceLT, Nat.reduceLeDiff, cmul_r, cdiv_r, tSl, tPart, tNoPart, rEq, rNe, scal_nn, scal_ii, scal_bb, scal_ss, scal_is, scal_si, V.ty.injEq, and_assoc, tyH_non, tyH_bl, tyH_int, tyH_str, tyH_ref, tyO_lst, tyO_IL, tyO_tup, itO_lst, itO_tup, itO_IL, Dw.rIxD, rLenI, rLenH, rLenTH, rLenQ, rLenB, rListI, Dw.rListS, rIntI, rIntB, rSumI, rIsiD, rIsX, tCallS, tMakeS, tMake, tMakeC, tMakeSC, tFld, sFld, HO.ins.injEq, HO.tup.injEq, cxOf_K, nox_K, tr_K, suite_K, rTupleI, rAllB, rAnyB, BL_inj, tChain, wOnly, wAs, wMany, rEqI, rNeI, Dw.rMax2, rMin2, Dw.rIsN, rIsNotN, rStrIn, rStrNotIn, not_true_eq_false, not_false_eq_true, reduceCtorEq, cl_bool, cl_int, cl_str, cl_list, cl_tuple, isB_NoneType_bool, isB_NoneType_int, isB_NoneType_str, isB_NoneType_list, isB_NoneType_tuple, isB_bool_bool, isB_bool_int, isB_bool_str, isB_bool_list, isB_bool_tuple, isB_int_bool, isB_int_int, isB_int_str, isB_int_list, isB_int_tuple, isB_str_bool, isB_str_int, isB_str_str, isB_str_list, isB_str_tuple, isB_list_bool, isB_list_int, isB_list_str, isB_list_list, isB_list_tuple, isB_tuple_bool, isB_tuple_int, isB_tuple_str, isB_tuple_list, isB_tuple_tuple, rSlCI, iRng3, iRev, gCons, gNil, iZip, iEnum, tLc_eq, tFor_eq, iRng1, iRng2, iList, iTup, rSetD, iKeys, tDNewK, Int.reducePow, Int.reduceNeg, iEz, tPar, tRevL, Dw.rSetL, Dw.rIxL, rIxE, iSeqA, rListTI]
    rw [hk1]
    refine ⟨k1, rfl, f2, fun v1 G1 t1 m1 e1 => ⟨v1, rfl, acc, t1 _ _ ea, _, e1, line_le (by omega), fun v2 m2 => ?_⟩⟩
    have sv2 := same_new m2 (IL (acc ++ digs k1))
    have ev2 : upd G1 v2 (IL (acc ++ digs k1)) v2 = _ := upd_same
    generalize upd G1 v2 (IL (acc ++ digs k1)) = G2 at sv2 ev2  ⊢
    refine ⟨_, by rw [sv2 _ _ (t1 _ _ q2)]; rfl, ?_⟩
    refine ⟨o.length, by rw [List.length_map], by omega, fun v3 G3 t3' m3 e3 => ⟨v3, rfl, _, t3' _ _ ev2, _, e3, line_le (by simp only [List.length_append]; omega), fun v4 m4 => ?_⟩⟩
    have sv4 := same_new m4 (IL (acc ++ digs k1 ++ digs o.length))
    have ev4 : upd G3 v4 (IL (acc ++ digs k1 ++ digs o.length)) v4 = _ := upd_same
    generalize upd G3 v4 (IL (acc ++ digs k1 ++ digs o.length)) = G4 at sv4 ev4  ⊢
    have sA := t1.trans (sv2.trans (t3'.trans sv4))
    refine ⟨_, by rw [sA _ _ q3]; rfl, ?_⟩
    refine ⟨n.length, by rw [List.length_map], by omega, fun v5 G5 t5 m5 e5 => ⟨v5, rfl, _, t5 _ _ ev4, _, e5, line_le (by simp only [List.length_append]; omega), fun v6 m6 => ?_⟩⟩
    have sv6 := same_new m6 (IL (acc ++ digs k1 ++ digs o.length ++ digs n.length))
    have ev6 : upd G5 v6 (IL (acc ++ digs k1 ++ digs o.length ++ digs n.length)) v6 = _ := upd_same
    generalize upd G5 v6 (IL (acc ++ digs k1 ++ digs o.length ++ digs n.length)) = G6 at sv6 ev6  ⊢
    have sB := sA.trans (t5.trans sv6)
    refine ⟨o, .of (sB _ _ q2), fun v7 m7 => ?_⟩
    have sv7 := same_new m7 (IL o)
    have ev7 : upd G6 v7 (IL o) v7 = _ := upd_same
    generalize upd G6 v7 (IL o) = G7 at sv7 ev7  ⊢
    refine ⟨_, sv7 _ _ ev6, line_le (by simp only [List.length_append]; omega), fun v8 m8 => ?_⟩
    have sv8 := same_new m8 (IL (acc ++ digs k1 ++ digs o.length ++ digs n.length ++ o))
    have ev8 : upd G7 v8 (IL (acc ++ digs k1 ++ digs o.length ++ digs n.length ++ o)) v8 = _ := upd_same
    generalize upd G7 v8 (IL (acc ++ digs k1 ++ digs o.length ++ digs n.length ++ o)) = G8 at sv8 ev8  ⊢
    have sC := sB.trans (sv7.trans sv8)
    refine ⟨n, .of (sC _ _ q3), fun v9 m9 => ?_⟩
    have sv9 := same_new m9 (IL n)
    have ev9 : upd G8 v9 (IL n) v9 = _ := upd_same
    generalize upd G8 v9 (IL n) = G9 at sv9 ev9  ⊢
    refine ⟨_, sv9 _ _ ev8, line_le (by simp only [List.length_append]; omega), fun v10 m10 => ?_⟩
    have sv10 := same_new m10 (IL (acc ++ digs k1 ++ digs o.length ++ digs n.length ++ o ++ n))
    have ev10 : upd G9 v10 (IL (acc ++ digs k1 ++ digs o.length ++ digs n.length ++ o ++ n)) v10 = _ := upd_same
    generalize upd G9 v10 (IL (acc ++ digs k1 ++ digs o.length ++ digs n.length ++ o ++ n)) = G10 at sv10 ev10  ⊢
    have sD := s4.trans (sC.trans (sv9.trans sv10))
    refine ⟨_, by rw [sD _ _ p2]; rfl, ?_⟩
    rw [hI, List.length_map]
    exact ⟨sD, v10, _, z + o.length, _, _, _, ev10, f5, hb, rfl⟩
  · intro σ H' h
    rw [hI] at h
    obtain ⟨s4, p, acc, e, y3, y4, y5, ea, hf, hb, rfl⟩ := h
    rw [hxl, List.drop_length] at hb
    have hb : bodyZ cs = acc := by rw [hb]; exact List.append_nil _
    subst hb
    try simp only [tSeq, tAsg, tVar, tC, tOp, rI0, rI, tUn, rU, tIfS, tTest, tRet, tRetN, tDrop, tCB, tCons, tNil, tLst, tLstI, tTup, gName, tB, tAnd, tOr, tNot, tAndV, tOrV, tNotV, tIf, tNext, tBreak, tCont, gSub, tCall, tCallN, tAug, ipI, tBML, tBML0, isL_IL, isL_lst, L2.start, List.map_cons, List.map_nil, List.length_cons, List.length_nil, List.cons_append, List.nil_append, List.getElem?_cons_succ, List.getElem?_cons_zero, Option.some.injEq, exists_eq_left', exists_eq_left, exists_and_left, V.int.injEq, V.ref.injEq, V.bl.injEq, V.str.injEq, List.set_cons_zero, List.set_cons_succ, List.cons.injEq, and_true, true_and, Nat.reduceAdd, Nat.reduceSub, List.replicate_succ, List.replicate_zero, rIxI, rIxH, rIxTH, rSetI, rSetH, rCatI, rRepI, rSlI, rAppendI, rExtendI, decide_eq_true_eq, upd_same, IL_inj, HO.lst.injEq, toInts_cons, toInts_nil, Option.map_some, if_true, if_false, Bool.true_eq_false, Bool.false_eq_true, Bool.not_true, Bool.not_false, Bool.not_eq_true', decide_eq_false_iff_not, atI_0, atI_1, atI_2, atI_3, atI_4, Int.reduceToNat, Int.reduceLT, Int.reduceLE, Int.reduceNeg, Int.reducePow, cast_lit, upd_upd, Int.reduceAdd, Int.reduceMul, Int.reduceSub, Nat.reduceLT, Nat.reduceLeDiff, cmul_r, cdiv_r, tSl, tPart, tNoPart, rEq, rNe, scal_nn, scal_ii, scal_bb, scal_ss, scal_is, scal_si, V.ty.injEq, and_assoc, tyH_non, tyH_bl, tyH_int, tyH_str, tyH_ref, tyO_lst, tyO_IL, tyO_tup, itO_lst, itO_tup, itO_IL, Dw.rIxD, rLenI, rLenH, rLenTH, rLenQ, rLenB, rListI, Dw.rListS, rIntI, rIntB, rSumI, rIsiD, rIsX, tCallS, tMakeS, tMake, tMakeC, tMakeSC, tFld, sFld, HO.ins.injEq, HO.tup.injEq, cxOf_K, nox_K, tr_K, suite_K, rTupleI, rAllB, rAnyB, BL_inj, tChain, wOnly, wAs, wMany, rEqI, rNeI, Dw.rMax2, rMin2, Dw.rIsN, rIsNotN, rStrIn, rStrNotIn, not_true_eq_false, not_false_eq_true, reduceCtorEq, cl_bool, cl_int, cl_str, cl_list, cl_tuple, isB_NoneType_bool, isB_NoneType_int, isB_NoneType_str, isB_NoneType_list, isB_NoneType_tuple, isB_bool_bool, isB_bool_int, isB_bool_str, isB_bool_list, isB_bool_tuple, isB_int_bool, isB_int_int, isB_int_str, isB_int_list, isB_int_tuple, isB_str_bool, isB_str_int, isB_str_str, isB_str_list, isB_str_tuple, isB_list_bool, isB_list_int, isB_list_str, isB_list_list, isB_list_tuple, isB_tuple_bool, isB_tuple_int, isB_tuple_str, isB_tuple_list, isB_tuple_tuple, rSlCI, iRng3, iRev, gCons, gNil, iZip, iEnum, tLc_eq, tFor_eq, iRng1, iRng2, iList, iTup, rSetD, iKeys, tDNewK, Int.reducePow, Int.reduceNeg, iEz, tPar, tRevL, Dw.rSetL, Dw.rIxL, rIxE, iSeqA, rListTI]
    refine ⟨p, _, rfl, ea, row_bytes hR, by omega, fun r H5 s5 n5 e5 => k r H5 (s4.trans s5) (same_none s4 n5) e5⟩
end
section
variable {P : Program} {w : World} {K : PySem.W.Frag} {mg : Str → Option Value} {base : Heap} {A : Ad}
theorem if_yes {c : Prop} [Decidable c] {G S : Prop} (h : c) (s : S) : if c then S else G := by rw [if_pos h]; exact s
theorem if_no {c : Prop} [Decidable c] {G S : Prop} (h : ¬ c) (s : G) : if c then S else G := by rw [if_neg h]; exact s
theorem if_both {c : Prop} [Decidable c] {G S : Prop} (h1 : c → G → S) (h : G) : if c then S else G := by
  by_cases q : c
  · rw [if_pos q]
    exact h1 q h
  · rw [if_neg q]
    exact h
theorem digs_lt (n : Nat) : n < 128 ^ (digs n).length := by
  induction n using Nat.strongRecOn with
  | ind n ih =>
    by_cases c : n > 127
    · have := ih (n / 128) (by omega)
      rw [digs_big c, List.length_cons, Nat.pow_succ]
      omega
    · rw [digs_small (by omega)]
      show n < 128
      omega
theorem fit_row : ∀ {cs : List Ch} {l e : Int}, e ≤ l → FitM l cs → (pbZ e cs).length ≤ 100 → Row e cs
  | [], _, _, _, _, _ => trivial
  | c :: r, l, e, he, h, hl => by
    obtain ⟨h1, h2, h3, h4, h5, h6, h7⟩ := h
    replace hl : (digs (c.1 - e).toNat ++ digs c.2.1.length ++ digs c.2.2.length ++ c.2.1 ++ c.2.2 ++ pbZ (c.1 + c.2.1.length) r).length ≤ 100 := hl
    simp only [List.length_append] at hl
    refine ⟨by omega, Nat.lt_of_lt_of_le (digs_lt _) (Nat.pow_le_pow_right (by decide) (by omega)), h2, h3, fit_row (l := c.1 + c.2.1.length + 1) (by omega) h7 (by omega)⟩
theorem Row.snoc : ∀ {cs : List Ch} {e : Int} {c : Ch}, Row e cs → endP e cs ≤ c.1 → (c.1 - endP e cs).toNat < 128 ^ 100 → Bytes c.2.1 → Bytes c.2.2 → Row e (cs ++ [c])
  | [], _, _, _, h1, h2, h3, h4 => ⟨h1, h2, h3, h4, trivial⟩
  | _ :: _, _, _, h, h1, h2, h3, h4 => ⟨h.1, h.2.1, h.2.2.1, h.2.2.2.1, Row.snoc h.2.2.2.2 h1 h2 h3 h4⟩
theorem Row.ge : ∀ {cs : List Ch} {e : Int}, Row e cs → e ≤ endP e cs
  | [], _, _ => Int.le_refl _
  | c :: r, e, h => by
    have := Row.ge h.2.2.2.2
    have h1 := h.1
    show e ≤ endP (c.1 + c.2.1.length) r
    omega
def spLRead : Sp := fun vs H Q _ => ∃ (a : Addr) (W : List Int), vs = [.ref a] ∧ H a = some (IL W) ∧ Bytes W ∧ W.length ≤ 90 ∧ ((∃ cs, Good W cs ∧ ∀ r xs H', Same H H' → H' r = some (.lst xs) → ChsAt H' xs cs → Q (.ref r) H') ∨ ((∀ cs, ¬ Good W cs) ∧ ∀ H', Same H H' → Q .non H'))
theorem ok_law_read_patch (T : Tx K mg A) : FnOk P w K mg base CX0 5 A.f_law_read_patch A.d_law_read_patch ["values"] spLRead := by
  refine T.F_law_read_patch.ok sc_law_read_patch (fun vs H Q E h => ?_) (fun cdv A' outer s H vs Q E hr h => ?_)
  · obtain ⟨a, W, rfl, _⟩ := h
    rfl
  obtain ⟨a, W, rfl, hA, hWb, hWl, kk⟩ := h
  refine ⟨_, (pss_cons (ps_if (pt_cmpR (op_neI hr.units) (pe_slice sl_listI (pv 0) po_none (po_some pe_int)) (pe_lstI (pa_cons pe_int (pa_cons pe_int pa_nil))) (nomark _)) (pss_one (ps_ret pe_non)) pss_nil)
      (pss_cons (ps_set (i := 1) sc_law_read_patch.nd rfl (Or.inl rfl) (pe_call (ok_law_digits_at T) (hr.mono (by decide)) rfl T.g_law_digits_at T.F_law_digits_at.kp T.b_law_digits_at .nil pass0 (pa_cons (pv 0) (pa_cons pe_int pa_nil))))
      (pss_cons (ps_if (PW.pt (pw_or (pt_cmpR op_isNone (pv 1) pe_non (nomark _)) (pw_or1 (pt_cmpR op_gt (pe_ix ix_tupH (pv 1) pe_int (fun _ _ => rfl)) pe_int (nomark _))))) (pss_one (ps_ret pe_non)) pss_nil)
      (pss_cons (ps_asg (pv 1) (pg_tup (n := 2) rfl (pgs_cons (pg_name (i := 2) sc_law_read_patch.nd rfl (Or.inl rfl)) (pgs_cons (pg_name (i := 3) sc_law_read_patch.nd rfl (Or.inl rfl)) pgs_nil))))
      (pss_cons (ps_set (i := 4) sc_law_read_patch.nd rfl (Or.inl rfl) (pe_lstI pa_nil))
      (pss_cons (ps_set (i := 5) sc_law_read_patch.nd rfl (Or.inl rfl) pe_int)
      (pss_cons (ps_for PassesOwn.never rfl (pi_range1 rfl T.z_range (pa_cons (pv 2) pa_nil)) (pg_name (i := 6) sc_law_read_patch.nd rfl (Or.inl rfl))
        (pss_cons (ps_set (i := 7) sc_law_read_patch.nd rfl (Or.inl rfl) (pe_lstI pa_nil))
      (pss_cons (ps_for PassesOwn.never rfl (pi_range1 rfl T.z_range (pa_cons pe_int pa_nil)) (pg_name (i := 8) sc_law_read_patch.nd rfl (Or.inl rfl))
        (pss_cons (ps_set (i := 1) sc_law_read_patch.nd rfl (Or.inl rfl) (pe_call (ok_law_digits_at T) (hr.mono (by decide)) rfl T.g_law_digits_at T.F_law_digits_at.kp T.b_law_digits_at .nil pass0 (pa_cons (pv 0) (pa_cons (pv 3) pa_nil))))
      (pss_cons (ps_if (pt_cmpR op_isNone (pv 1) pe_non (nomark _)) (pss_one (ps_ret pe_non)) pss_nil)
      (pss_cons (ps_expr (PE.imp (pe_bm PySem.F.plainAttrs_list PySem.F.slot_list_append PySem.F.type_list_append mt_appendI (pv 7) (pa_cons (pe_ix ix_tupH (pv 1) pe_int (fun _ _ => rfl)) pa_nil)) bml_imp))
      (pss_one (ps_set (i := 3) sc_law_read_patch.nd rfl (Or.inl rfl) (pe_ix ix_tupH (pv 1) pe_int (fun _ _ => rfl))))))))
      (pss_cons (ps_if (pt_cmpR op_gt (pe_op op_add (pe_op op_add (pv 3) (pe_ix ix_listI (pv 7) pe_int (fun _ _ => rfl))) (pe_ix ix_listI (pv 7) pe_int (fun _ _ => rfl))) (pe_callB call_lenI (by rfl) T.z_len (by decide +kernel) (pa_cons (pv 0) pa_nil)) (nomark _)) (pss_one (ps_ret pe_non)) pss_nil)
      (pss_cons (ps_set (i := 9) sc_law_read_patch.nd rfl (Or.inl rfl) (pe_callTy call_tupleI (by rfl) T.z_tuple (by decide +kernel) (pa_cons (pe_slice sl_listI (pv 0) (po_some (pv 3)) (po_some (pe_op op_add (pv 3) (pe_ix ix_listI (pv 7) pe_int (fun _ _ => rfl))))) pa_nil)))
      (pss_cons (ps_set (i := 10) sc_law_read_patch.nd rfl (Or.inl rfl) (pe_callTy call_tupleI (by rfl) T.z_tuple (by decide +kernel) (pa_cons (pe_slice sl_listI (pv 0) (po_some (pe_op op_add (pv 3) (pe_ix ix_listI (pv 7) pe_int (fun _ _ => rfl)))) (po_some (pe_op op_add (pe_op op_add (pv 3) (pe_ix ix_listI (pv 7) pe_int (fun _ _ => rfl))) (pe_ix ix_listI (pv 7) pe_int (fun _ _ => rfl))))) pa_nil)))
      (pss_cons (ps_set (i := 3) sc_law_read_patch.nd rfl (Or.inl rfl) (pe_op op_add (pe_op op_add (pv 3) (pe_ix ix_listI (pv 7) pe_int (fun _ _ => rfl))) (pe_ix ix_listI (pv 7) pe_int (fun _ _ => rfl))))
      (pss_cons (ps_if (PW.pt (pw_or (pt_cmpR (op_eqD hr.units) (pv 9) (pv 10) (nomark _)) (pw_or1 (PW.pt (pw_and (pt_cmpR op_gt (pv 6) pe_int (nomark _)) (pw_and1 (pt_cmpR op_eq (pe_ix ix_listI (pv 7) pe_int (fun _ _ => rfl)) pe_int (nomark _)))))))) (pss_one (ps_ret pe_non)) pss_nil)
      (pss_cons (ps_expr (PE.imp (pe_bm PySem.F.plainAttrs_list PySem.F.slot_list_append PySem.F.type_list_append mt_append (pv 4) (pa_cons (pe_tup (pa_cons (pe_op op_add (pv 5) (pe_ix ix_listI (pv 7) pe_int (fun _ _ => rfl))) (pa_cons (pv 9) (pa_cons (pv 10) pa_nil)))) pa_nil)) bml_imp))
      (pss_one (ps_set (i := 5) sc_law_read_patch.nd rfl (Or.inl rfl) (pe_op op_add (pe_op op_add (pv 5) (pe_ix ix_listI (pv 7) pe_int (fun _ _ => rfl))) (pe_ix ix_listI (pv 7) pe_int (fun _ _ => rfl))))))))))))))
      (pss_one (ps_ret (pe_ifExp (pt_cmpR (op_eqI hr.units) (pe_call (ok_law_patch_row T) (hr.mono (by decide)) rfl T.g_law_patch_row T.F_law_patch_row.kp T.b_law_patch_row .nil pass0 (pa_cons (pv 4) pa_nil)) (pv 0) (nomark _)) (pv 4) pe_non)))))))))), ?_⟩
  try simp only [tSeq, tAsg, tVar, tC, tOp, rI0, rI, tUn, rU, tIfS, tTest, tRet, tRetN, tDrop, tCB, tCons, tNil, tLst, tLstI, tTup, gName, tB, tAnd, tOr, tNot, tAndV, tOrV, tNotV, tIf, tNext, tBreak, tCont, gSub, tCall, tCallN, tAug, ipI, tBML, tBML0, isL_IL, isL_lst, L2.start, List.map_cons, List.map_nil, List.length_cons, List.length_nil, List.cons_append, List.nil_append, List.getElem?_cons_succ, List.getElem?_cons_zero, Option.some.injEq, exists_eq_left', exists_eq_left, exists_and_left, V.int.injEq, V.ref.injEq, V.bl.injEq, V.str.injEq, List.set_cons_zero, List.set_cons_succ, List.cons.injEq, and_true, true_and, Nat.reduceAdd, Nat.reduceSub, List.replicate_succ, List.replicate_zero, rIxI, rIxH, rIxTH, rSetI, rSetH, rCatI, rRepI, rSlI, rAppendI, rExtendI, decide_eq_true_eq, upd_same, IL_inj, HO.lst.injEq, toInts_cons, toInts_nil, Option.map_some, if_true, if_false, Bool.true_eq_false, Bool.false_eq_true, Bool.not_true, Bool.not_false, Bool.not_eq_true', decide_eq_false_iff_not, atI_0, atI_1, atI_2, atI_3, atI_4, Int.reduceToNat, Int.reduceLT, Int.reduceLE, Int.reduceNeg, Int.reducePow, cast_lit, upd_upd, Int.reduceAdd, Int.reduceMul, Int.reduceSub, Nat.reduceLT, Nat.reduceLeDiff, cmul_r, cdiv_r, tSl, tPart, tNoPart, rEq, rNe, scal_nn, scal_ii, scal_bb, scal_ss, scal_is, scal_si, V.ty.injEq, and_assoc, tyH_non, tyH_bl, tyH_int, tyH_str, tyH_ref, tyO_lst, tyO_IL, tyO_tup, itO_lst, itO_tup, itO_IL, Dw.rIxD, rLenI, rLenH, rLenTH, rLenQ, rLenB, rListI, Dw.rListS, rIntI, rIntB, rSumI, rIsiD, rIsX, tCallS, tMakeS, tMake, tMakeC, tMakeSC, tFld, sFld, HO.ins.injEq, HO.tup.injEq, cxOf_K, nox_K, tr_K, suite_K, rTupleI, rAllB, rAnyB, BL_inj, tChain, wOnly, wAs, wMany, rEqI, rNeI, Dw.rMax2, rMin2, Dw.rIsN, rIsNotN, rStrIn, rStrNotIn, not_true_eq_false, not_false_eq_true, reduceCtorEq, cl_bool, cl_int, cl_str, cl_list, cl_tuple, isB_NoneType_bool, isB_NoneType_int, isB_NoneType_str, isB_NoneType_list, isB_NoneType_tuple, isB_bool_bool, isB_bool_int, isB_bool_str, isB_bool_list, isB_bool_tuple, isB_int_bool, isB_int_int, isB_int_str, isB_int_list, isB_int_tuple, isB_str_bool, isB_str_int, isB_str_str, isB_str_list, isB_str_tuple, isB_list_bool, isB_list_int, isB_list_str, isB_list_list, isB_list_tuple, isB_tuple_bool, isB_tuple_int, isB_tuple_str, isB_tuple_list, isB_tuple_tuple, rSlCI, iRng3, iRev, gCons, gNil, iZip, iEnum, tLc_eq, tFor_eq, iRng1, iRng2, iList, iTup, rSetD, iKeys, tDNewK, Int.reducePow, Int.reduceNeg, iEz, tPar, tRevL, Dw.rSetL, Dw.rIxL, rIxE, iSeqA, rListTI, hA]
  rw [show cutI W none (some 2) = W.take 2 from cutI_up _ 2]
  intro u1 nu1
  have su1 := same_new nu1 (IL (W.take 2))
  have eu1 : upd H u1 (IL (W.take 2)) u1 = _ := upd_same
  generalize upd H u1 (IL (W.take 2)) = H1 at su1 eu1  ⊢
  refine ⟨line_le (by decide), fun u2 nu2 => ?_⟩
  have su2 := same_new nu2 (IL [80, 65])
  have eu2 : upd H1 u2 (IL [80, 65]) u2 = _ := upd_same
  generalize upd H1 u2 (IL [80, 65]) = H2 at su2 eu2  ⊢
  refine ⟨_, su2 _ _ eu1, ?_⟩
  have s2 := su1.trans su2
  by_cases c1 : W.take 2 = [80, 65]
  · rw [if_neg (fun h => h c1)]
    have h2l : 2 ≤ W.length := by
      have : (W.take 2).length = 2 := by rw [c1]; rfl
      rw [List.length_take] at this
      omega
    rcases kk with ⟨cs, hG, k⟩ | ⟨hno, kn⟩
    · have hW : W = bodyZ cs ++ [crcZ (bodyZ cs) / 256, crcZ (bodyZ cs) % 256] := hG.1
      have r0 : rdZ W 2 = some ((cs.length : Int), 2 + (digs cs.length).length) := rd_at (pre := [80, 65]) (R := pbZ 0 cs ++ [crcZ (bodyZ cs) / 256, crcZ (bodyZ cs) % 256]) (by rw [hW]; show [80, 65] ++ digs cs.length ++ pbZ 0 cs ++ _ = _; simp only [List.append_assoc]) rfl
      refine ⟨a, W, 2, rfl, s2 _ _ hA, hWb, by omega, h2l, fun v j hv t1 H3 s3 n3 e3 => ?_, fun h => by rw [r0] at h; cases h⟩
      rw [r0] at hv
      cases hv
      refine if_no (by intro h; cases h) ?_
      refine ⟨t1, rfl, _, e3, _, rfl, _, rfl, ?_⟩
      have hcl := hG.2.2
      rw [if_neg (by omega)]
      refine ⟨t1, _, rfl, .of e3, rfl, ?_⟩
      try simp only [tSeq, tAsg, tVar, tC, tOp, rI0, rI, tUn, rU, tIfS, tTest, tRet, tRetN, tDrop, tCB, tCons, tNil, tLst, tLstI, tTup, gName, tB, tAnd, tOr, tNot, tAndV, tOrV, tNotV, tIf, tNext, tBreak, tCont, gSub, tCall, tCallN, tAug, ipI, tBML, tBML0, isL_IL, isL_lst, L2.start, List.map_cons, List.map_nil, List.length_cons, List.length_nil, List.cons_append, List.nil_append, List.getElem?_cons_succ, List.getElem?_cons_zero, Option.some.injEq, exists_eq_left', exists_eq_left, exists_and_left, V.int.injEq, V.ref.injEq, V.bl.injEq, V.str.injEq, List.set_cons_zero, List.set_cons_succ, List.cons.injEq, and_true, true_and, Nat.reduceAdd, Nat.reduceSub, List.replicate_succ, List.replicate_zero, rIxI, rIxH, rIxTH, rSetI, rSetH, rCatI, rRepI, rSlI, rAppendI, rExtendI, decide_eq_true_eq, upd_same, IL_inj, HO.lst.injEq, toInts_cons, toInts_nil, Option.map_some, if_true, if_false, Bool.true_eq_false, Bool.false_eq_true, Bool.not_true, Bool.not_false, Bool.not_eq_true', decide_eq_false_iff_not, atI_0, atI_1, atI_2, atI_3, atI_4, Int.reduceToNat, Int.reduceLT, Int.reduceLE, Int.reduceNeg, Int.reducePow, cast_lit, upd_upd, Int.reduceAdd, Int.reduceMul, Int.reduceSub, Nat.reduceLT, Nat.reduceLeDiff, cmul_r, cdiv_r, tSl, tPart, tNoPart, rEq, rNe, scal_nn, scal_ii, scal_bb, scal_ss, scal_is, scal_si, V.ty.injEq, and_assoc, tyH_non, tyH_bl, tyH_int, tyH_str, tyH_ref, tyO_lst, tyO_IL, tyO_tup, itO_lst, itO_tup, itO_IL, Dw.rIxD, rLenI, rLenH, rLenTH, rLenQ, rLenB, rListI, Dw.rListS, rIntI, rIntB, rSumI, rIsiD, rIsX, tCallS, tMakeS, tMake, tMakeC, tMakeSC, tFld, sFld, HO.ins.injEq, HO.tup.injEq, cxOf_K, nox_K, tr_K, suite_K, rTupleI, rAllB, rAnyB, BL_inj, tChain, wOnly, wAs, wMany, rEqI, rNeI, Dw.rMax2, rMin2, Dw.rIsN, rIsNotN, rStrIn, rStrNotIn, not_true_eq_false, not_false_eq_true, reduceCtorEq, cl_bool, cl_int, cl_str, cl_list, cl_tuple, isB_NoneType_bool, isB_NoneType_int, isB_NoneType_str, isB_NoneType_list, isB_NoneType_tuple, isB_bool_bool, isB_bool_int, isB_bool_str, isB_bool_list, isB_bool_tuple, isB_int_bool, isB_int_int, isB_int_str, isB_int_list, isB_int_tuple, isB_str_bool, isB_str_int, isB_str_str, isB_str_list, isB_str_tuple, isB_list_bool, isB_list_int, isB_list_str, isB_list_list, isB_list_tuple, isB_tuple_bool, isB_tuple_int, isB_tuple_str, isB_tuple_list, isB_tuple_tuple, rSlCI, iRng3, iRev, gCons, gNil, iZip, iEnum, tLc_eq, tFor_eq, iRng1, iRng2, iList, iTup, rSetD, iKeys, tDNewK, Int.reducePow, Int.reduceNeg, iEz, tPar, tRevL, Dw.rSetL, Dw.rIxL, rIxE, iSeqA, rListTI]
      refine ⟨Nat.zero_le _, fun D nD => ?_⟩
      have sD := same_new nD (IL [])
      have eD : upd H3 D (IL []) D = _ := upd_same
      generalize upd H3 D (IL []) = H4 at sD eD  ⊢
      have s03 := s2.trans s3
      have nH : H D = none := same_none s03 nD
      rw [Int.toNat_natCast]
      refine ⟨by omega, by omega, ?_⟩
      obtain ⟨I, hI⟩ : ∃ F : Nat → L2.St → Hp → Prop, F = (fun i σ H' => Same H H' ∧ ∃ (pre : List Int) (e l : Int) (ys : List V) (y1 y6 y7 y8 y9 y10 : Option V), H' D = some (.lst ys) ∧ ChsAt H' ys (cs.take i) ∧ 0 ≤ e ∧ e ≤ l ∧ (0 < i → e + 1 ≤ l) ∧ FitM l (cs.drop i) ∧ W = pre ++ pbZ e (cs.drop i) ++ [crcZ (bodyZ cs) / 256, crcZ (bodyZ cs) % 256] ∧ σ = [some (V.ref a), y1, some (V.int (cs.length : Int)), some (V.int (pre.length : Int)), some (V.ref D), some (V.int e), y6, y7, y8, y9, y10]) := ⟨_, rfl⟩
      refine forR I (by rw [hI]; exact ⟨s03.trans sD, hdPZ cs, 0, 0, [], _, _, _, _, _, _, eD, .nil, Int.le_refl _, Int.le_refl _, fun h => absurd h (by omega), hG.2.1, hW, by unfold hdPZ; rw [List.length_append]; rfl⟩) ?_ ?_
      · intro i σ H5 hi h
        rw [hI] at h
        obtain ⟨s5, pre, e, l, ys, y1, y6, y7, y8, y9, y10, eY, hC, e0, hel, hel1, hf, hb, rfl⟩ := h
        obtain ⟨⟨z, o, n⟩, hc⟩ : ∃ c, cs[i]? = some c := ⟨_, List.getElem?_eq_getElem hi⟩
        rw [chain_at hc] at hf hb
        obtain ⟨f1, f2, f3, f4, f5, f6, f7⟩ := hf
        simp only at f1 f2 f3 f4 f5 f6 f7
        obtain ⟨k1, hk1⟩ := Int.eq_ofNat_of_zero_le (show 0 ≤ z - e by omega)
        have hk2 : (z - e).toNat = k1 := by omega
        have hb2 : W = pre ++ ([k1, o.length, n.length].flatMap digs) ++ (o ++ n ++ (pbZ (z + o.length) (cs.drop (i + 1)) ++ [crcZ (bodyZ cs) / 256, crcZ (bodyZ cs) % 256])) := by
          rw [hb, pbZ_more]
          simp only [hk2, List.flatMap_cons, List.flatMap_nil, List.append_nil, List.append_assoc]
        generalize hR : pbZ (z + o.length) (cs.drop (i + 1)) ++ [crcZ (bodyZ cs) / 256, crcZ (bodyZ cs) % 256] = R at hb2
        try simp only [tSeq, tAsg, tVar, tC, tOp, rI0, rI, tUn, rU, tIfS, tTest, tRet, tRetN, tDrop, tCB, tCons, tNil, tLst, tLstI, tTup, gName, tB, tAnd, tOr, tNot, tAndV, tOrV, tNotV, tIf, tNext, tBreak, tCont, gSub, tCall, tCallN, tAug, ipI, tBML, tBML0, isL_IL, isL_lst, L2.start, List.map_cons, List.map_nil, List.length_cons, List.length_nil, List.cons_append, List.nil_append, List.getElem?_cons_succ, List.getElem?_cons_zero, Option.some.injEq, exists_eq_left', exists_eq_left, exists_and_left, V.int.injEq, V.ref.injEq, V.bl.injEq, V.str.injEq, List.set_cons_zero, List.set_cons_succ, List.cons.injEq, and_true, true_and, Nat.reduceAdd, Nat.reduceSub, List.replicate_succ, List.replicate_zero, rIxI, rIxH, rIxTH, rSetI, rSetH, rCatI, rRepI, rSlI, rAppendI, rExtendI, decide_eq_true_eq, upd_same, IL_inj, HO.lst.injEq, toInts_cons, toInts_nil, Option.map_some, if_true, if_false, Bool.true_eq_false, Bool.false_eq_true, Bool.not_true, Bool.not_false, Bool.not_eq_true', decide_eq_false_iff_not, atI_0, atI_1, atI_2, atI_3, atI_4, Int.reduceToNat, Int.reduceLT, Int.reduceLE, Int.reduceNeg, Int.reducePow, cast_lit, upd_upd, Int.reduceAdd, Int.reduceMul, Int.reduceSub, Nat.reduceLT, Nat.reduceLeDiff, cmul_r, cdiv_r, tSl, tPart, tNoPart, rEq, rNe, scal_nn, scal_ii, scal_bb, scal_ss, scal_is, scal_si, V.ty.injEq, and_assoc, tyH_non, tyH_bl, tyH_int, tyH_str, tyH_ref, tyO_lst, tyO_IL, tyO_tup, itO_lst, itO_tup, itO_IL, Dw.rIxD, rLenI, rLenH, rLenTH, rLenQ, rLenB, rListI, Dw.rListS, rIntI, rIntB, rSumI, rIsiD, rIsX, tCallS, tMakeS, tMake, tMakeC, tMakeSC, tFld, sFld, HO.ins.injEq, HO.tup.injEq, cxOf_K, nox_K, tr_K, suite_K, rTupleI, rAllB, rAnyB, BL_inj, tChain, wOnly, wAs, wMany, rEqI, rNeI, Dw.rMax2, rMin2, Dw.rIsN, rIsNotN, rStrIn, rStrNotIn, not_true_eq_false, not_false_eq_true, reduceCtorEq, cl_bool, cl_int, cl_str, cl_list, cl_tuple, isB_NoneType_bool, isB_NoneType_int, isB_NoneType_str, isB_NoneType_list, isB_NoneType_tuple, isB_bool_bool, isB_bool_int, isB_bool_str, isB_bool_list, isB_bool_tuple, isB_int_bool, isB_int_int, isB_int_str, isB_int_list, isB_int_tuple, isB_str_bool, isB_str_int, isB_str_str, isB_str_list, isB_str_tuple, isB_list_bool, isB_list_int, isB_list_str, isB_list_list, isB_list_tuple, isB_tuple_bool, isB_tuple_int, isB_tuple_str, isB_tuple_list, isB_tuple_tuple, rSlCI, iRng3, iRev, gCons, gNil, iZip, iEnum, tLc_eq, tFor_eq, iRng1, iRng2, iList, iTup, rSetD, iKeys, tDNewK, Int.reducePow, Int.reduceNeg, iEz, tPar, tRevL, Dw.rSetL, Dw.rIxL, rIxE, iSeqA, rListTI, Int.zero_add]
        refine ⟨Nat.zero_le _, fun N nN => ?_⟩
        have sN := same_new nN (IL [])
        have eN : upd H5 N (IL []) N = _ := upd_same
        generalize upd H5 N (IL []) = H6 at sN eN  ⊢
        obtain ⟨J, hJ⟩ : ∃ F : Nat → L2.St → Hp → Prop, F = (fun m σ H' => Same H5 H' ∧ ∃ (pr : List Int) (y1 y8 : Option V), H' N = some (IL (([k1, o.length, n.length].take m).map fun x : Nat => (x : Int))) ∧ W = pr ++ (([k1, o.length, n.length].drop m).flatMap digs) ++ (o ++ n ++ R) ∧ σ = [some (V.ref a), y1, some (V.int (cs.length : Int)), some (V.int (pr.length : Int)), some (V.ref D), some (V.int e), some (V.int (i : Int)), some (V.ref N), y8, y9, y10]) := ⟨_, rfl⟩
        refine forR J (by rw [hJ]; exact ⟨sN, pre, _, _, eN, hb2, rfl⟩) ?_ ?_
        · intro m σ H7 hm h
          rw [hJ] at h
          obtain ⟨s7, pr, y1, y8, eN, hp, rfl⟩ := h
          obtain ⟨q, hq⟩ : ∃ q, [k1, o.length, n.length][m]? = some q := ⟨_, List.getElem?_eq_getElem hm⟩
          have hdq : [k1, o.length, n.length].drop m = q :: [k1, o.length, n.length].drop (m + 1) := by
            rw [List.drop_eq_getElem_cons (List.getElem?_eq_some_iff.mp hq).1, (List.getElem?_eq_some_iff.mp hq).2]
          rw [hdq, List.flatMap_cons] at hp
          have hp2 : W = pr ++ digs q ++ (([k1, o.length, n.length].drop (m + 1)).flatMap digs ++ (o ++ n ++ R)) := by rw [hp]; simp only [List.append_assoc]
          have r1 := rd_at hp2 rfl
          try simp only [tSeq, tAsg, tVar, tC, tOp, rI0, rI, tUn, rU, tIfS, tTest, tRet, tRetN, tDrop, tCB, tCons, tNil, tLst, tLstI, tTup, gName, tB, tAnd, tOr, tNot, tAndV, tOrV, tNotV, tIf, tNext, tBreak, tCont, gSub, tCall, tCallN, tAug, ipI, tBML, tBML0, isL_IL, isL_lst, L2.start, List.map_cons, List.map_nil, List.length_cons, List.length_nil, List.cons_append, List.nil_append, List.getElem?_cons_succ, List.getElem?_cons_zero, Option.some.injEq, exists_eq_left', exists_eq_left, exists_and_left, V.int.injEq, V.ref.injEq, V.bl.injEq, V.str.injEq, List.set_cons_zero, List.set_cons_succ, List.cons.injEq, and_true, true_and, Nat.reduceAdd, Nat.reduceSub, List.replicate_succ, List.replicate_zero, rIxI, rIxH, rIxTH, rSetI, rSetH, rCatI, rRepI, rSlI, rAppendI, rExtendI, decide_eq_true_eq, upd_same, IL_inj, HO.lst.injEq, toInts_cons, toInts_nil, Option.map_some, if_true, if_false, Bool.true_eq_false, Bool.false_eq_true, Bool.not_true, Bool.not_false, Bool.not_eq_true', decide_eq_false_iff_not, atI_0, atI_1, atI_2, atI_3, atI_4, Int.reduceToNat, Int.reduceLT, Int.reduceLE, Int.reduceNeg, Int.reducePow, cast_lit, upd_upd, Int.reduceAdd, Int.reduceMul, Int.reduceSub, Nat.reduceLT, Nat.reduceLeDiff, cmul_r, cdiv_r, tSl, tPart, tNoPart, rEq, rNe, scal_nn, scal_ii, scal_bb, scal_ss, scal_is, scal_si, V.ty.injEq, and_assoc, tyH_non, tyH_bl, tyH_int, tyH_str, tyH_ref, tyO_lst, tyO_IL, tyO_tup, itO_lst, itO_tup, itO_IL, Dw.rIxD, rLenI, rLenH, rLenTH, rLenQ, rLenB, rListI, Dw.rListS, rIntI, rIntB, rSumI, rIsiD, rIsX, tCallS, tMakeS, tMake, tMakeC, tMakeSC, tFld, sFld, HO.ins.injEq, HO.tup.injEq, cxOf_K, nox_K, tr_K, suite_K, rTupleI, rAllB, rAnyB, BL_inj, tChain, wOnly, wAs, wMany, rEqI, rNeI, Dw.rMax2, rMin2, Dw.rIsN, rIsNotN, rStrIn, rStrNotIn, not_true_eq_false, not_false_eq_true, reduceCtorEq, cl_bool, cl_int, cl_str, cl_list, cl_tuple, isB_NoneType_bool, isB_NoneType_int, isB_NoneType_str, isB_NoneType_list, isB_NoneType_tuple, isB_bool_bool, isB_bool_int, isB_bool_str, isB_bool_list, isB_bool_tuple, isB_int_bool, isB_int_int, isB_int_str, isB_int_list, isB_int_tuple, isB_str_bool, isB_str_int, isB_str_str, isB_str_list, isB_str_tuple, isB_list_bool, isB_list_int, isB_list_str, isB_list_list, isB_list_tuple, isB_tuple_bool, isB_tuple_int, isB_tuple_str, isB_tuple_list, isB_tuple_tuple, rSlCI, iRng3, iRev, gCons, gNil, iZip, iEnum, tLc_eq, tFor_eq, iRng1, iRng2, iList, iTup, rSetD, iKeys, tDNewK, Int.reducePow, Int.reduceNeg, iEz, tPar, tRevL, Dw.rSetL, Dw.rIxL, rIxE, iSeqA, rListTI]
          refine ⟨a, W, pr.length, rfl, s7 _ _ (s5 _ _ hA), hWb, by omega, by rw [hp]; simp only [List.length_append]; omega, fun v j hv t2 H8 s8 n8 e8 => ?_, fun h => by rw [r1] at h; cases h⟩
          rw [r1] at hv
          cases hv
          refine if_no (by intro h; cases h) ?_
          have eN8 := s8 _ _ eN
          have tN : t2 ≠ N := (ne_of_none eN n8).symm
          have hml : (([k1, o.length, n.length].take m).map fun x : Nat => (x : Int)).length < 16777216 := by rw [List.length_map, List.length_take]; omega
          refine ⟨by rw [eN8]; rfl, t2, rfl, _, e8, _, rfl, _, _, rfl, eN8, line_lt hml, t2, rfl, _, by rw [upd_ne tN]; exact e8, _, rfl, ?_⟩
          rw [hJ]
          refine ⟨Same.put (s7.trans s8) nN _, pr ++ digs q, _, _, ?_, by rw [hp2]; simp only [List.append_assoc], by rw [List.length_append]⟩
          rw [take_more hq, List.map_append]
          exact upd_same
        · intro σ H7 h
          rw [hJ] at h
          obtain ⟨s7, pr, y1, y8, eN, hp, rfl⟩ := h
          replace hp : W = pr ++ o ++ (n ++ R) := by rw [hp]; show pr ++ [] ++ (o ++ n ++ R) = _; simp only [List.append_nil, List.append_assoc]
          replace eN : H7 N = some (IL [(k1 : Int), (o.length : Int), (n.length : Int)]) := eN
          have hp2 : W = (pr ++ o) ++ n ++ R := by rw [hp]; simp only [List.append_assoc]
          obtain ⟨r4, r4l⟩ := tk_at hp (j := pr.length) rfl
          obtain ⟨r5, r5l⟩ := tk_at hp2 (j := pr.length + o.length) (by rw [List.length_append])
          try simp only [tSeq, tAsg, tVar, tC, tOp, rI0, rI, tUn, rU, tIfS, tTest, tRet, tRetN, tDrop, tCB, tCons, tNil, tLst, tLstI, tTup, gName, tB, tAnd, tOr, tNot, tAndV, tOrV, tNotV, tIf, tNext, tBreak, tCont, gSub, tCall, tCallN, tAug, ipI, tBML, tBML0, isL_IL, isL_lst, L2.start, List.map_cons, List.map_nil, List.length_cons, List.length_nil, List.cons_append, List.nil_append, List.getElem?_cons_succ, List.getElem?_cons_zero, Option.some.injEq, exists_eq_left', exists_eq_left, exists_and_left, V.int.injEq, V.ref.injEq, V.bl.injEq, V.str.injEq, List.set_cons_zero, List.set_cons_succ, List.cons.injEq, and_true, true_and, Nat.reduceAdd, Nat.reduceSub, List.replicate_succ, List.replicate_zero, rIxI, rIxH, rIxTH, rSetI, rSetH, rCatI, rRepI, rSlI, rAppendI, rExtendI, decide_eq_true_eq, upd_same, IL_inj, HO.lst.injEq, toInts_cons, toInts_nil, Option.map_some, if_true, if_false, Bool.true_eq_false, Bool.false_eq_true, Bool.not_true, Bool.not_false, Bool.not_eq_true', decide_eq_false_iff_not, atI_0, atI_1, atI_2, atI_3, atI_4, Int.reduceToNat, Int.reduceLT, Int.reduceLE, Int.reduceNeg, Int.reducePow, cast_lit, upd_upd, Int.reduceAdd, Int.reduceMul, Int.reduceSub, Nat.reduceLT, Nat.reduceLeDiff, cmul_r, cdiv_r, tSl, tPart, tNoPart, rEq, rNe, scal_nn, scal_ii, scal_bb, scal_ss, scal_is, scal_si, V.ty.injEq, and_assoc, tyH_non, tyH_bl, tyH_int, tyH_str, tyH_ref, tyO_lst, tyO_IL, tyO_tup, itO_lst, itO_tup, itO_IL, Dw.rIxD, rLenI, rLenH, rLenTH, rLenQ, rLenB, rListI, Dw.rListS, rIntI, rIntB, rSumI, rIsiD, rIsX, tCallS, tMakeS, tMake, tMakeC, tMakeSC, tFld, sFld, HO.ins.injEq, HO.tup.injEq, cxOf_K, nox_K, tr_K, suite_K, rTupleI, rAllB, rAnyB, BL_inj, tChain, wOnly, wAs, wMany, rEqI, rNeI, Dw.rMax2, rMin2, Dw.rIsN, rIsNotN, rStrIn, rStrNotIn, not_true_eq_false, not_false_eq_true, reduceCtorEq, cl_bool, cl_int, cl_str, cl_list, cl_tuple, isB_NoneType_bool, isB_NoneType_int, isB_NoneType_str, isB_NoneType_list, isB_NoneType_tuple, isB_bool_bool, isB_bool_int, isB_bool_str, isB_bool_list, isB_bool_tuple, isB_int_bool, isB_int_int, isB_int_str, isB_int_list, isB_int_tuple, isB_str_bool, isB_str_int, isB_str_str, isB_str_list, isB_str_tuple, isB_list_bool, isB_list_int, isB_list_str, isB_list_list, isB_list_tuple, isB_tuple_bool, isB_tuple_int, isB_tuple_str, isB_tuple_list, isB_tuple_tuple, rSlCI, iRng3, iRev, gCons, gNil, iZip, iEnum, tLc_eq, tFor_eq, iRng1, iRng2, iList, iTup, rSetD, iKeys, tDNewK, Int.reducePow, Int.reduceNeg, iEz, tPar, tRevL, Dw.rSetL, Dw.rIxL, rIxE, iSeqA, rListTI]
          have ec1 : cutI W (some (pr.length : Int)) (some ((pr.length : Int) + [(k1 : Int), (o.length : Int), (n.length : Int)].getD 1 0)) = o := by
            show cutI W (some (pr.length : Int)) (some ((pr.length : Int) + (o.length : Int))) = o
            rw [← Int.natCast_add, cutI_nat (by omega) r4l, show pr.length + o.length - pr.length = o.length by omega, r4]
          have ec2 : cutI W (some ((pr.length : Int) + [(k1 : Int), (o.length : Int), (n.length : Int)].getD 1 0)) (some ((pr.length : Int) + [(k1 : Int), (o.length : Int), (n.length : Int)].getD 1 0 + [(k1 : Int), (o.length : Int), (n.length : Int)].getD 2 0)) = n := by
            show cutI W (some ((pr.length : Int) + (o.length : Int))) (some ((pr.length : Int) + (o.length : Int) + (n.length : Int))) = n
            rw [← Int.natCast_add, ← Int.natCast_add, cutI_nat (by omega) r5l, show pr.length + o.length + n.length - (pr.length + o.length) = n.length by omega, r5]
          have l1 : (1 : Int) < ([(k1 : Int), (o.length : Int), (n.length : Int)].length : Int) := by show (1 : Int) < 3; decide
          have l2 : (2 : Int) < ([(k1 : Int), (o.length : Int), (n.length : Int)].length : Int) := by show (2 : Int) < 3; decide
          have l0 : (0 : Int) < ([(k1 : Int), (o.length : Int), (n.length : Int)].length : Int) := by show (0 : Int) < 3; decide
          have hA7 := s7 _ _ (s5 _ _ hA)
          refine ⟨_, eN, l1, _, eN, l2, _, hA7, ?_⟩
          rw [if_neg (by show ¬ ((W.length : Int) < (pr.length : Int) + (o.length : Int) + (n.length : Int)); omega)]
          refine ⟨_, eN, l1, _, hA7, ?_⟩
          rw [ec1]
          intro v1 m1
          have sv1 := same_new m1 (IL o)
          have ev1 : upd H7 v1 (IL o) v1 = _ := upd_same
          generalize upd H7 v1 (IL o) = H8 at sv1 ev1  ⊢
          intro v2 m2
          have sv2 := same_new m2 (HO.tup (o.map V.int))
          have ev2 : upd H8 v2 (HO.tup (o.map V.int)) v2 = _ := upd_same
          generalize upd H8 v2 (HO.tup (o.map V.int)) = H9 at sv2 ev2  ⊢
          have s79 := sv1.trans sv2
          refine ⟨_, s79 _ _ eN, l1, _, s79 _ _ eN, l1, _, s79 _ _ eN, l2, _, s79 _ _ hA7, ?_⟩
          rw [ec2]
          intro v3 m3
          have sv3 := same_new m3 (IL n)
          have ev3 : upd H9 v3 (IL n) v3 = _ := upd_same
          generalize upd H9 v3 (IL n) = H10 at sv3 ev3  ⊢
          intro v4 m4
          have sv4 := same_new m4 (HO.tup (n.map V.int))
          have ev4 : upd H10 v4 (HO.tup (n.map V.int)) v4 = _ := upd_same
          generalize upd H10 v4 (HO.tup (n.map V.int)) = H11 at sv4 ev4  ⊢
          have s711 := s79.trans (sv3.trans sv4)
          have q1 := sv4 _ _ (sv3 _ _ ev2)
          refine ⟨_, s711 _ _ eN, l1, _, s711 _ _ eN, l2, ?_⟩
          refine ⟨_, _, Dt.dp _ _ (dt_tupI q1), Dt.dp _ _ (dt_tupI ev4), shaped_of (.tup .ints), shaped_of (.tup .ints), _, rfl, ?_⟩
          rw [PyData.eqv, eqvAll_ints, decide_eq_false f6, if_neg (by decide)]
          have eN11 := s711 _ _ eN
          refine if_both (fun hi0 hg => ⟨_, eN11, l0, ?_⟩) ?_
          · rw [if_neg (by have := hel1 (by omega); show ¬ ((k1 : Int) = 0); omega)]
            exact hg
          have eY11 := s711 _ _ (s7 _ _ eY)
          refine ⟨by rw [eY11]; rfl, _, eN11, l0, line_le (by decide), fun u9 nu9 => ?_⟩
          have g0 : e + [(k1 : Int), (o.length : Int), (n.length : Int)].getD 0 0 = z := by show e + (k1 : Int) = z; omega
          have g1 : (pr.length : Int) + [(k1 : Int), (o.length : Int), (n.length : Int)].getD 1 0 + [(k1 : Int), (o.length : Int), (n.length : Int)].getD 2 0 = ((pr ++ o ++ n).length : Int) := by
            show (pr.length : Int) + (o.length : Int) + (n.length : Int) = _
            rw [List.length_append, List.length_append]
            omega
          have g2 : e + [(k1 : Int), (o.length : Int), (n.length : Int)].getD 0 0 + [(k1 : Int), (o.length : Int), (n.length : Int)].getD 1 0 = z + o.length := by
            show e + (k1 : Int) + (o.length : Int) = _
            omega
          rw [g0]
          have su9 := same_new nu9 (HO.tup [V.int z, V.ref v2, V.ref v4])
          have eu9 : upd H11 u9 (HO.tup [V.int z, V.ref v2, V.ref v4]) u9 = _ := upd_same
          generalize upd H11 u9 (HO.tup [V.int z, V.ref v2, V.ref v4]) = H12 at su9 eu9  ⊢
          have hcx : ChAt H12 (.ref u9) (z, o, n) := ⟨u9, v2, v4, rfl, eu9, su9 _ _ q1, su9 _ _ ev4⟩
          have hC12 := (hC.same ((s7.trans s711).trans su9)).push hcx
          have hyl := hC.1
          rw [List.length_take] at hyl
          have eN12 : ∀ X, upd H12 D X N = some (IL [(k1 : Int), (o.length : Int), (n.length : Int)]) := fun X => by
            rw [upd_ne (ne_of_none eY nN).symm]
            exact su9 _ _ eN11
          refine ⟨D, ys, _, rfl, rfl, su9 _ _ eY11, line_lt (by omega), ?_⟩
          refine ⟨_, eN12 _, l0, _, eN12 _, l1, ?_⟩
          rw [hI, g1, g2]
          refine ⟨Same.put (s5.trans (s7.trans (s711.trans su9))) nH _, pr ++ o ++ n, z + o.length, z + o.length + 1, _, _, _, _, _, _, _, upd_same, by rw [take_more hc]; exact hC12.ups (su9 _ _ eY11) (fun _ e => by cases e), by omega, by omega, fun _ => Int.le_refl _, f7, by rw [hp2, ← hR]; simp only [List.append_assoc], rfl⟩
      · intro σ H5 h
        rw [hI] at h
        obtain ⟨s5, pre, e, l, ys, y1, y6, y7, y8, y9, y10, eY, hC, e0, hel, hel1, hf, hb, rfl⟩ := h
        rw [List.take_length] at hC
        try simp only [tSeq, tAsg, tVar, tC, tOp, rI0, rI, tUn, rU, tIfS, tTest, tRet, tRetN, tDrop, tCB, tCons, tNil, tLst, tLstI, tTup, gName, tB, tAnd, tOr, tNot, tAndV, tOrV, tNotV, tIf, tNext, tBreak, tCont, gSub, tCall, tCallN, tAug, ipI, tBML, tBML0, isL_IL, isL_lst, L2.start, List.map_cons, List.map_nil, List.length_cons, List.length_nil, List.cons_append, List.nil_append, List.getElem?_cons_succ, List.getElem?_cons_zero, Option.some.injEq, exists_eq_left', exists_eq_left, exists_and_left, V.int.injEq, V.ref.injEq, V.bl.injEq, V.str.injEq, List.set_cons_zero, List.set_cons_succ, List.cons.injEq, and_true, true_and, Nat.reduceAdd, Nat.reduceSub, List.replicate_succ, List.replicate_zero, rIxI, rIxH, rIxTH, rSetI, rSetH, rCatI, rRepI, rSlI, rAppendI, rExtendI, decide_eq_true_eq, upd_same, IL_inj, HO.lst.injEq, toInts_cons, toInts_nil, Option.map_some, if_true, if_false, Bool.true_eq_false, Bool.false_eq_true, Bool.not_true, Bool.not_false, Bool.not_eq_true', decide_eq_false_iff_not, atI_0, atI_1, atI_2, atI_3, atI_4, Int.reduceToNat, Int.reduceLT, Int.reduceLE, Int.reduceNeg, Int.reducePow, cast_lit, upd_upd, Int.reduceAdd, Int.reduceMul, Int.reduceSub, Nat.reduceLT, Nat.reduceLeDiff, cmul_r, cdiv_r, tSl, tPart, tNoPart, rEq, rNe, scal_nn, scal_ii, scal_bb, scal_ss, scal_is, scal_si, V.ty.injEq, and_assoc, tyH_non, tyH_bl, tyH_int, tyH_str, tyH_ref, tyO_lst, tyO_IL, tyO_tup, itO_lst, itO_tup, itO_IL, Dw.rIxD, rLenI, rLenH, rLenTH, rLenQ, rLenB, rListI, Dw.rListS, rIntI, rIntB, rSumI, rIsiD, rIsX, tCallS, tMakeS, tMake, tMakeC, tMakeSC, tFld, sFld, HO.ins.injEq, HO.tup.injEq, cxOf_K, nox_K, tr_K, suite_K, rTupleI, rAllB, rAnyB, BL_inj, tChain, wOnly, wAs, wMany, rEqI, rNeI, Dw.rMax2, rMin2, Dw.rIsN, rIsNotN, rStrIn, rStrNotIn, not_true_eq_false, not_false_eq_true, reduceCtorEq, cl_bool, cl_int, cl_str, cl_list, cl_tuple, isB_NoneType_bool, isB_NoneType_int, isB_NoneType_str, isB_NoneType_list, isB_NoneType_tuple, isB_bool_bool, isB_bool_int, isB_bool_str, isB_bool_list, isB_bool_tuple, isB_int_bool, isB_int_int, isB_int_str, isB_int_list, isB_int_tuple, isB_str_bool, isB_str_int, isB_str_str, isB_str_list, isB_str_tuple, isB_list_bool, isB_list_int, isB_list_str, isB_list_list, isB_list_tuple, isB_tuple_bool, isB_tuple_int, isB_tuple_str, isB_tuple_list, isB_tuple_tuple, rSlCI, iRng3, iRev, gCons, gNil, iZip, iEnum, tLc_eq, tFor_eq, iRng1, iRng2, iList, iTup, rSetD, iKeys, tDNewK, Int.reducePow, Int.reduceNeg, iEz, tPar, tRevL, Dw.rSetL, Dw.rIxL, rIxE, iSeqA, rListTI]
        have hbl := bytesP_len cs
        rw [← hG.1] at hbl
        have hbl2 := bodyZ_len cs
        have hRow := fit_row (e := 0) (Int.le_refl _) hG.2.1 (by omega)
        refine ⟨D, ys, cs, rfl, eY, hC, hRow, hcl, by omega, fun r H6 s6 n6 e6 => ⟨r, rfl, _, e6, W, s6 _ _ (s5 _ _ hA), ?_⟩⟩
        rw [if_pos hG.1.symm]
        exact k D ys H6 (s5.trans s6) (s6 _ _ eY) (hC.same s6)
    · refine ⟨a, W, 2, rfl, s2 _ _ hA, hWb, by omega, h2l, fun v j hv t1 H3 s3 n3 e3 => ?_, fun _ H3 s3 => ?_⟩
      rotate_left
      · exact if_yes rfl (kn _ (s2.trans s3))
      obtain ⟨NN, rfl, w1, w2, w3, w4⟩ := rd_canon hWb hv
      rw [c1] at w1
      refine if_no (by intro h; cases h) ?_
      refine ⟨t1, rfl, _, e3, _, rfl, _, rfl, ?_⟩
      by_cases cN : (500 : Int) < (NN : Int)
      · rw [if_pos cN]
        exact kn _ (s2.trans s3)
      rw [if_neg cN]
      refine ⟨t1, _, rfl, .of e3, rfl, ?_⟩
      try simp only [tSeq, tAsg, tVar, tC, tOp, rI0, rI, tUn, rU, tIfS, tTest, tRet, tRetN, tDrop, tCB, tCons, tNil, tLst, tLstI, tTup, gName, tB, tAnd, tOr, tNot, tAndV, tOrV, tNotV, tIf, tNext, tBreak, tCont, gSub, tCall, tCallN, tAug, ipI, tBML, tBML0, isL_IL, isL_lst, L2.start, List.map_cons, List.map_nil, List.length_cons, List.length_nil, List.cons_append, List.nil_append, List.getElem?_cons_succ, List.getElem?_cons_zero, Option.some.injEq, exists_eq_left', exists_eq_left, exists_and_left, V.int.injEq, V.ref.injEq, V.bl.injEq, V.str.injEq, List.set_cons_zero, List.set_cons_succ, List.cons.injEq, and_true, true_and, Nat.reduceAdd, Nat.reduceSub, List.replicate_succ, List.replicate_zero, rIxI, rIxH, rIxTH, rSetI, rSetH, rCatI, rRepI, rSlI, rAppendI, rExtendI, decide_eq_true_eq, upd_same, IL_inj, HO.lst.injEq, toInts_cons, toInts_nil, Option.map_some, if_true, if_false, Bool.true_eq_false, Bool.false_eq_true, Bool.not_true, Bool.not_false, Bool.not_eq_true', decide_eq_false_iff_not, atI_0, atI_1, atI_2, atI_3, atI_4, Int.reduceToNat, Int.reduceLT, Int.reduceLE, Int.reduceNeg, Int.reducePow, cast_lit, upd_upd, Int.reduceAdd, Int.reduceMul, Int.reduceSub, Nat.reduceLT, Nat.reduceLeDiff, cmul_r, cdiv_r, tSl, tPart, tNoPart, rEq, rNe, scal_nn, scal_ii, scal_bb, scal_ss, scal_is, scal_si, V.ty.injEq, and_assoc, tyH_non, tyH_bl, tyH_int, tyH_str, tyH_ref, tyO_lst, tyO_IL, tyO_tup, itO_lst, itO_tup, itO_IL, Dw.rIxD, rLenI, rLenH, rLenTH, rLenQ, rLenB, rListI, Dw.rListS, rIntI, rIntB, rSumI, rIsiD, rIsX, tCallS, tMakeS, tMake, tMakeC, tMakeSC, tFld, sFld, HO.ins.injEq, HO.tup.injEq, cxOf_K, nox_K, tr_K, suite_K, rTupleI, rAllB, rAnyB, BL_inj, tChain, wOnly, wAs, wMany, rEqI, rNeI, Dw.rMax2, rMin2, Dw.rIsN, rIsNotN, rStrIn, rStrNotIn, not_true_eq_false, not_false_eq_true, reduceCtorEq, cl_bool, cl_int, cl_str, cl_list, cl_tuple, isB_NoneType_bool, isB_NoneType_int, isB_NoneType_str, isB_NoneType_list, isB_NoneType_tuple, isB_bool_bool, isB_bool_int, isB_bool_str, isB_bool_list, isB_bool_tuple, isB_int_bool, isB_int_int, isB_int_str, isB_int_list, isB_int_tuple, isB_str_bool, isB_str_int, isB_str_str, isB_str_list, isB_str_tuple, isB_list_bool, isB_list_int, isB_list_str, isB_list_list, isB_list_tuple, isB_tuple_bool, isB_tuple_int, isB_tuple_str, isB_tuple_list, isB_tuple_tuple, rSlCI, iRng3, iRev, gCons, gNil, iZip, iEnum, tLc_eq, tFor_eq, iRng1, iRng2, iList, iTup, rSetD, iKeys, tDNewK, Int.reducePow, Int.reduceNeg, iEz, tPar, tRevL, Dw.rSetL, Dw.rIxL, rIxE, iSeqA, rListTI]
      refine ⟨Nat.zero_le _, fun D nD => ?_⟩
      have sD := same_new nD (IL [])
      have eD : upd H3 D (IL []) D = _ := upd_same
      generalize upd H3 D (IL []) = H4 at sD eD  ⊢
      have s03 := s2.trans s3
      have nH : H D = none := same_none s03 nD
      rw [Int.toNat_natCast]
      refine ⟨by omega, by omega, ?_⟩
      obtain ⟨I, hI⟩ : ∃ F : Nat → L2.St → Hp → Prop, F = (fun i σ H' => Same H H' ∧ ∃ (done : List Ch) (j : Nat) (ys : List V) (y1 y6 y7 y8 y9 y10 : Option V), H' D = some (.lst ys) ∧ ChsAt H' ys done ∧ done.length = i ∧ FitM 0 done ∧ Row 0 done ∧ j ≤ W.length ∧ W.take j = [80, 65] ++ digs NN ++ pbZ 0 done ∧ σ = [some (V.ref a), y1, some (V.int (NN : Int)), some (V.int (j : Int)), some (V.ref D), some (V.int (endP 0 done)), y6, y7, y8, y9, y10]) := ⟨_, rfl⟩
      refine forR I (by rw [hI]; exact ⟨s03.trans sD, [], j, [], _, _, _, _, _, _, eD, .nil, rfl, trivial, trivial, w2, by rw [w1]; exact (List.append_nil _).symm, rfl⟩) ?_ ?_
      · intro i σ H5 hi h
        rw [hI] at h
        obtain ⟨s5, done, j, ys, y1, y6, y7, y8, y9, y10, eY, hC, hdl, hFd, hRd, hj, hWj, rfl⟩ := h
        have he := hRd.ge
        try simp only [tSeq, tAsg, tVar, tC, tOp, rI0, rI, tUn, rU, tIfS, tTest, tRet, tRetN, tDrop, tCB, tCons, tNil, tLst, tLstI, tTup, gName, tB, tAnd, tOr, tNot, tAndV, tOrV, tNotV, tIf, tNext, tBreak, tCont, gSub, tCall, tCallN, tAug, ipI, tBML, tBML0, isL_IL, isL_lst, L2.start, List.map_cons, List.map_nil, List.length_cons, List.length_nil, List.cons_append, List.nil_append, List.getElem?_cons_succ, List.getElem?_cons_zero, Option.some.injEq, exists_eq_left', exists_eq_left, exists_and_left, V.int.injEq, V.ref.injEq, V.bl.injEq, V.str.injEq, List.set_cons_zero, List.set_cons_succ, List.cons.injEq, and_true, true_and, Nat.reduceAdd, Nat.reduceSub, List.replicate_succ, List.replicate_zero, rIxI, rIxH, rIxTH, rSetI, rSetH, rCatI, rRepI, rSlI, rAppendI, rExtendI, decide_eq_true_eq, upd_same, IL_inj, HO.lst.injEq, toInts_cons, toInts_nil, Option.map_some, if_true, if_false, Bool.true_eq_false, Bool.false_eq_true, Bool.not_true, Bool.not_false, Bool.not_eq_true', decide_eq_false_iff_not, atI_0, atI_1, atI_2, atI_3, atI_4, Int.reduceToNat, Int.reduceLT, Int.reduceLE, Int.reduceNeg, Int.reducePow, cast_lit, upd_upd, Int.reduceAdd, Int.reduceMul, Int.reduceSub, Nat.reduceLT, Nat.reduceLeDiff, cmul_r, cdiv_r, tSl, tPart, tNoPart, rEq, rNe, scal_nn, scal_ii, scal_bb, scal_ss, scal_is, scal_si, V.ty.injEq, and_assoc, tyH_non, tyH_bl, tyH_int, tyH_str, tyH_ref, tyO_lst, tyO_IL, tyO_tup, itO_lst, itO_tup, itO_IL, Dw.rIxD, rLenI, rLenH, rLenTH, rLenQ, rLenB, rListI, Dw.rListS, rIntI, rIntB, rSumI, rIsiD, rIsX, tCallS, tMakeS, tMake, tMakeC, tMakeSC, tFld, sFld, HO.ins.injEq, HO.tup.injEq, cxOf_K, nox_K, tr_K, suite_K, rTupleI, rAllB, rAnyB, BL_inj, tChain, wOnly, wAs, wMany, rEqI, rNeI, Dw.rMax2, rMin2, Dw.rIsN, rIsNotN, rStrIn, rStrNotIn, not_true_eq_false, not_false_eq_true, reduceCtorEq, cl_bool, cl_int, cl_str, cl_list, cl_tuple, isB_NoneType_bool, isB_NoneType_int, isB_NoneType_str, isB_NoneType_list, isB_NoneType_tuple, isB_bool_bool, isB_bool_int, isB_bool_str, isB_bool_list, isB_bool_tuple, isB_int_bool, isB_int_int, isB_int_str, isB_int_list, isB_int_tuple, isB_str_bool, isB_str_int, isB_str_str, isB_str_list, isB_str_tuple, isB_list_bool, isB_list_int, isB_list_str, isB_list_list, isB_list_tuple, isB_tuple_bool, isB_tuple_int, isB_tuple_str, isB_tuple_list, isB_tuple_tuple, rSlCI, iRng3, iRev, gCons, gNil, iZip, iEnum, tLc_eq, tFor_eq, iRng1, iRng2, iList, iTup, rSetD, iKeys, tDNewK, Int.reducePow, Int.reduceNeg, iEz, tPar, tRevL, Dw.rSetL, Dw.rIxL, rIxE, iSeqA, rListTI, Int.zero_add]
        refine ⟨Nat.zero_le _, fun N nN => ?_⟩
        have sN := same_new nN (IL [])
        have eN : upd H5 N (IL []) N = _ := upd_same
        generalize upd H5 N (IL []) = H6 at sN eN  ⊢
        obtain ⟨J, hJ⟩ : ∃ F : Nat → L2.St → Hp → Prop, F = (fun m σ H' => Same H5 H' ∧ ∃ (ms : List Nat) (j2 : Nat) (y1 y8 : Option V), H' N = some (IL (ms.map fun x : Nat => (x : Int))) ∧ ms.length = m ∧ (∀ x ∈ ms, x < 128 ^ 100) ∧ j2 ≤ W.length ∧ W.take j2 = W.take j ++ ms.flatMap digs ∧ σ = [some (V.ref a), y1, some (V.int (NN : Int)), some (V.int (j2 : Int)), some (V.ref D), some (V.int (endP 0 done)), some (V.int (i : Int)), some (V.ref N), y8, y9, y10]) := ⟨_, rfl⟩
        refine forR J (by rw [hJ]; exact ⟨sN, [], j, _, _, eN, rfl, (fun x hx => by cases hx), hj, (List.append_nil _).symm, rfl⟩) ?_ ?_
        · intro m σ H7 hm h
          rw [hJ] at h
          obtain ⟨s7, ms, j2, y1, y8, eN, hml, hms, hj2, hW2, rfl⟩ := h
          try simp only [tSeq, tAsg, tVar, tC, tOp, rI0, rI, tUn, rU, tIfS, tTest, tRet, tRetN, tDrop, tCB, tCons, tNil, tLst, tLstI, tTup, gName, tB, tAnd, tOr, tNot, tAndV, tOrV, tNotV, tIf, tNext, tBreak, tCont, gSub, tCall, tCallN, tAug, ipI, tBML, tBML0, isL_IL, isL_lst, L2.start, List.map_cons, List.map_nil, List.length_cons, List.length_nil, List.cons_append, List.nil_append, List.getElem?_cons_succ, List.getElem?_cons_zero, Option.some.injEq, exists_eq_left', exists_eq_left, exists_and_left, V.int.injEq, V.ref.injEq, V.bl.injEq, V.str.injEq, List.set_cons_zero, List.set_cons_succ, List.cons.injEq, and_true, true_and, Nat.reduceAdd, Nat.reduceSub, List.replicate_succ, List.replicate_zero, rIxI, rIxH, rIxTH, rSetI, rSetH, rCatI, rRepI, rSlI, rAppendI, rExtendI, decide_eq_true_eq, upd_same, IL_inj, HO.lst.injEq, toInts_cons, toInts_nil, Option.map_some, if_true, if_false, Bool.true_eq_false, Bool.false_eq_true, Bool.not_true, Bool.not_false, Bool.not_eq_true', decide_eq_false_iff_not, atI_0, atI_1, atI_2, atI_3, atI_4, Int.reduceToNat, Int.reduceLT, Int.reduceLE, Int.reduceNeg, Int.reducePow, cast_lit, upd_upd, Int.reduceAdd, Int.reduceMul, Int.reduceSub, Nat.reduceLT, Nat.reduceLeDiff, cmul_r, cdiv_r, tSl, tPart, tNoPart, rEq, rNe, scal_nn, scal_ii, scal_bb, scal_ss, scal_is, scal_si, V.ty.injEq, and_assoc, tyH_non, tyH_bl, tyH_int, tyH_str, tyH_ref, tyO_lst, tyO_IL, tyO_tup, itO_lst, itO_tup, itO_IL, Dw.rIxD, rLenI, rLenH, rLenTH, rLenQ, rLenB, rListI, Dw.rListS, rIntI, rIntB, rSumI, rIsiD, rIsX, tCallS, tMakeS, tMake, tMakeC, tMakeSC, tFld, sFld, HO.ins.injEq, HO.tup.injEq, cxOf_K, nox_K, tr_K, suite_K, rTupleI, rAllB, rAnyB, BL_inj, tChain, wOnly, wAs, wMany, rEqI, rNeI, Dw.rMax2, rMin2, Dw.rIsN, rIsNotN, rStrIn, rStrNotIn, not_true_eq_false, not_false_eq_true, reduceCtorEq, cl_bool, cl_int, cl_str, cl_list, cl_tuple, isB_NoneType_bool, isB_NoneType_int, isB_NoneType_str, isB_NoneType_list, isB_NoneType_tuple, isB_bool_bool, isB_bool_int, isB_bool_str, isB_bool_list, isB_bool_tuple, isB_int_bool, isB_int_int, isB_int_str, isB_int_list, isB_int_tuple, isB_str_bool, isB_str_int, isB_str_str, isB_str_list, isB_str_tuple, isB_list_bool, isB_list_int, isB_list_str, isB_list_list, isB_list_tuple, isB_tuple_bool, isB_tuple_int, isB_tuple_str, isB_tuple_list, isB_tuple_tuple, rSlCI, iRng3, iRev, gCons, gNil, iZip, iEnum, tLc_eq, tFor_eq, iRng1, iRng2, iList, iTup, rSetD, iKeys, tDNewK, Int.reducePow, Int.reduceNeg, iEz, tPar, tRevL, Dw.rSetL, Dw.rIxL, rIxE, iSeqA, rListTI]
          refine ⟨a, W, j2, rfl, s7 _ _ (s5 _ _ hA), hWb, by omega, hj2, fun v j3 hv t2 H8 s8 n8 e8 => ?_, fun _ H8 s8 => ?_⟩
          rotate_left
          · exact if_yes rfl (kn _ (s5.trans (s7.trans s8)))
          obtain ⟨q, rfl, a1, a2, a3, a4⟩ := rd_canon hWb hv
          refine if_no (by intro h; cases h) ?_
          have eN8 := s8 _ _ eN
          have tN : t2 ≠ N := (ne_of_none eN n8).symm
          have hml2 : (ms.map fun x : Nat => (x : Int)).length < 16777216 := by
            have hm3 : m < 3 := hm
            rw [List.length_map]
            omega
          refine ⟨by rw [eN8]; rfl, t2, rfl, _, e8, _, rfl, _, _, rfl, eN8, line_lt hml2, t2, rfl, _, by rw [upd_ne tN]; exact e8, _, rfl, ?_⟩
          rw [hJ]
          refine ⟨Same.put (s7.trans s8) nN _, ms ++ [q], j3, _, _, ?_, by rw [List.length_append, hml]; rfl, fun x hx => ?_, a2, ?_, rfl⟩
          · rw [List.map_append]
            exact upd_same
          · rcases List.mem_append.mp hx with h | h
            · exact hms x h
            · rw [List.mem_singleton.mp h]
              exact Nat.lt_of_lt_of_le a4 (Nat.pow_le_pow_right (by decide) (by omega))
          · rw [a1, hW2, List.flatMap_append, List.append_assoc]
            show _ = W.take j ++ (ms.flatMap digs ++ (digs q ++ []))
            rw [List.append_nil]
        · intro σ H7 h
          rw [hJ] at h
          obtain ⟨s7, ms, j2, y1, y8, eN, hml, hms, hj2, hW2, rfl⟩ := h
          obtain ⟨k1, ol, nl, rfl⟩ : ∃ x y z, ms = [x, y, z] := by
            match ms, hml with
            | [x, y, z], _ => exact ⟨x, y, z, rfl⟩
          replace hW2 : W.take j2 = W.take j ++ (digs k1 ++ (digs ol ++ (digs nl ++ []))) := hW2
          rw [List.append_nil] at hW2
          have hk1 := hms k1 List.mem_cons_self
          replace eN : H7 N = some (IL [(k1 : Int), (ol : Int), (nl : Int)]) := eN
          try simp only [tSeq, tAsg, tVar, tC, tOp, rI0, rI, tUn, rU, tIfS, tTest, tRet, tRetN, tDrop, tCB, tCons, tNil, tLst, tLstI, tTup, gName, tB, tAnd, tOr, tNot, tAndV, tOrV, tNotV, tIf, tNext, tBreak, tCont, gSub, tCall, tCallN, tAug, ipI, tBML, tBML0, isL_IL, isL_lst, L2.start, List.map_cons, List.map_nil, List.length_cons, List.length_nil, List.cons_append, List.nil_append, List.getElem?_cons_succ, List.getElem?_cons_zero, Option.some.injEq, exists_eq_left', exists_eq_left, exists_and_left, V.int.injEq, V.ref.injEq, V.bl.injEq, V.str.injEq, List.set_cons_zero, List.set_cons_succ, List.cons.injEq, and_true, true_and, Nat.reduceAdd, Nat.reduceSub, List.replicate_succ, List.replicate_zero, rIxI, rIxH, rIxTH, rSetI, rSetH, rCatI, rRepI, rSlI, rAppendI, rExtendI, decide_eq_true_eq, upd_same, IL_inj, HO.lst.injEq, toInts_cons, toInts_nil, Option.map_some, if_true, if_false, Bool.true_eq_false, Bool.false_eq_true, Bool.not_true, Bool.not_false, Bool.not_eq_true', decide_eq_false_iff_not, atI_0, atI_1, atI_2, atI_3, atI_4, Int.reduceToNat, Int.reduceLT, Int.reduceLE, Int.reduceNeg, Int.reducePow, cast_lit, upd_upd, Int.reduceAdd, Int.reduceMul, Int.reduceSub, Nat.reduceLT, Nat.reduceLeDiff, cmul_r, cdiv_r, tSl, tPart, tNoPart, rEq, rNe, scal_nn, scal_ii, scal_bb, scal_ss, scal_is, scal_si, V.ty.injEq, and_assoc, tyH_non, tyH_bl, tyH_int, tyH_str, tyH_ref, tyO_lst, tyO_IL, tyO_tup, itO_lst, itO_tup, itO_IL, Dw.rIxD, rLenI, rLenH, rLenTH, rLenQ, rLenB, rListI, Dw.rListS, rIntI, rIntB, rSumI, rIsiD, rIsX, tCallS, tMakeS, tMake, tMakeC, tMakeSC, tFld, sFld, HO.ins.injEq, HO.tup.injEq, cxOf_K, nox_K, tr_K, suite_K, rTupleI, rAllB, rAnyB, BL_inj, tChain, wOnly, wAs, wMany, rEqI, rNeI, Dw.rMax2, rMin2, Dw.rIsN, rIsNotN, rStrIn, rStrNotIn, not_true_eq_false, not_false_eq_true, reduceCtorEq, cl_bool, cl_int, cl_str, cl_list, cl_tuple, isB_NoneType_bool, isB_NoneType_int, isB_NoneType_str, isB_NoneType_list, isB_NoneType_tuple, isB_bool_bool, isB_bool_int, isB_bool_str, isB_bool_list, isB_bool_tuple, isB_int_bool, isB_int_int, isB_int_str, isB_int_list, isB_int_tuple, isB_str_bool, isB_str_int, isB_str_str, isB_str_list, isB_str_tuple, isB_list_bool, isB_list_int, isB_list_str, isB_list_list, isB_list_tuple, isB_tuple_bool, isB_tuple_int, isB_tuple_str, isB_tuple_list, isB_tuple_tuple, rSlCI, iRng3, iRev, gCons, gNil, iZip, iEnum, tLc_eq, tFor_eq, iRng1, iRng2, iList, iTup, rSetD, iKeys, tDNewK, Int.reducePow, Int.reduceNeg, iEz, tPar, tRevL, Dw.rSetL, Dw.rIxL, rIxE, iSeqA, rListTI]
          have l1 : (1 : Int) < ([(k1 : Int), (ol : Int), (nl : Int)].length : Int) := by show (1 : Int) < 3; decide
          have l2 : (2 : Int) < ([(k1 : Int), (ol : Int), (nl : Int)].length : Int) := by show (2 : Int) < 3; decide
          have l0 : (0 : Int) < ([(k1 : Int), (ol : Int), (nl : Int)].length : Int) := by show (0 : Int) < 3; decide
          have hA7 := s7 _ _ (s5 _ _ hA)
          refine ⟨_, eN, l1, _, eN, l2, _, hA7, ?_⟩
          by_cases cL : (W.length : Int) < (j2 : Int) + (ol : Int) + (nl : Int)
          · exact if_yes cL (kn _ (s5.trans s7))
          refine if_no cL ?_
          have r5l : j2 + ol + nl ≤ W.length := by omega
          generalize ho : (W.drop j2).take ol = o
          generalize hn : (W.drop (j2 + ol)).take nl = n
          have lo : o.length = ol := by rw [← ho, List.length_take, List.length_drop]; omega
          have ln : n.length = nl := by rw [← hn, List.length_take, List.length_drop]; omega
          have ec1 : cutI W (some (j2 : Int)) (some ((j2 : Int) + [(k1 : Int), (ol : Int), (nl : Int)].getD 1 0)) = o := by
            show cutI W (some (j2 : Int)) (some ((j2 : Int) + (ol : Int))) = o
            rw [← Int.natCast_add, cutI_nat (by omega) (by omega), show j2 + ol - j2 = ol by omega, ho]
          have ec2 : cutI W (some ((j2 : Int) + [(k1 : Int), (ol : Int), (nl : Int)].getD 1 0)) (some ((j2 : Int) + [(k1 : Int), (ol : Int), (nl : Int)].getD 1 0 + [(k1 : Int), (ol : Int), (nl : Int)].getD 2 0)) = n := by
            show cutI W (some ((j2 : Int) + (ol : Int))) (some ((j2 : Int) + (ol : Int) + (nl : Int))) = n
            rw [← Int.natCast_add, ← Int.natCast_add, cutI_nat (by omega) r5l, show j2 + ol + nl - (j2 + ol) = nl by omega, hn]
          refine ⟨_, eN, l1, _, hA7, ?_⟩
          rw [ec1]
          intro v1 m1
          have sv1 := same_new m1 (IL o)
          have ev1 : upd H7 v1 (IL o) v1 = _ := upd_same
          generalize upd H7 v1 (IL o) = H8 at sv1 ev1  ⊢
          intro v2 m2
          have sv2 := same_new m2 (HO.tup (o.map V.int))
          have ev2 : upd H8 v2 (HO.tup (o.map V.int)) v2 = _ := upd_same
          generalize upd H8 v2 (HO.tup (o.map V.int)) = H9 at sv2 ev2  ⊢
          have s79 := sv1.trans sv2
          refine ⟨_, s79 _ _ eN, l1, _, s79 _ _ eN, l1, _, s79 _ _ eN, l2, _, s79 _ _ hA7, ?_⟩
          rw [ec2]
          intro v3 m3
          have sv3 := same_new m3 (IL n)
          have ev3 : upd H9 v3 (IL n) v3 = _ := upd_same
          generalize upd H9 v3 (IL n) = H10 at sv3 ev3  ⊢
          intro v4 m4
          have sv4 := same_new m4 (HO.tup (n.map V.int))
          have ev4 : upd H10 v4 (HO.tup (n.map V.int)) v4 = _ := upd_same
          generalize upd H10 v4 (HO.tup (n.map V.int)) = H11 at sv4 ev4  ⊢
          have s711 := s79.trans (sv3.trans sv4)
          have q1 := sv4 _ _ (sv3 _ _ ev2)
          refine ⟨_, s711 _ _ eN, l1, _, s711 _ _ eN, l2, ?_⟩
          refine ⟨_, _, Dt.dp _ _ (dt_tupI q1), Dt.dp _ _ (dt_tupI ev4), shaped_of (.tup .ints), shaped_of (.tup .ints), _, rfl, ?_⟩
          rw [PyData.eqv, eqvAll_ints]
          by_cases cE : o = n
          · rw [decide_eq_true cE, if_pos rfl]
            exact kn _ (s5.trans (s7.trans s711))
          rw [decide_eq_false cE, if_neg (by decide)]
          have eN11 := s711 _ _ eN
          by_cases cz : 0 < i ∧ k1 = 0
          · rw [if_pos (by omega)]
            refine ⟨_, eN11, l0, ?_⟩
            rw [if_pos (by show (k1 : Int) = 0; omega)]
            exact kn _ (s5.trans (s7.trans s711))
          refine if_both (fun hi0 hg => ⟨_, eN11, l0, ?_⟩) ?_
          · rw [if_neg (by show ¬ ((k1 : Int) = 0); omega)]
            exact hg
          have eY11 := s711 _ _ (s7 _ _ eY)
          refine ⟨by rw [eY11]; rfl, _, eN11, l0, line_le (by decide), fun u9 nu9 => ?_⟩
          have g0 : endP 0 done + [(k1 : Int), (ol : Int), (nl : Int)].getD 0 0 = endP 0 done + k1 := rfl
          have g1 : (j2 : Int) + [(k1 : Int), (ol : Int), (nl : Int)].getD 1 0 + [(k1 : Int), (ol : Int), (nl : Int)].getD 2 0 = ((j2 + ol + nl : Nat) : Int) := by
            show (j2 : Int) + (ol : Int) + (nl : Int) = _
            omega
          have g2 : endP 0 done + [(k1 : Int), (ol : Int), (nl : Int)].getD 0 0 + [(k1 : Int), (ol : Int), (nl : Int)].getD 1 0 = endP 0 (done ++ [(endP 0 done + (k1 : Int), o, n)]) := by
            rw [endP_snoc]
            show endP 0 done + (k1 : Int) + (ol : Int) = endP 0 done + (k1 : Int) + (o.length : Int)
            rw [lo]
          rw [g0]
          have su9 := same_new nu9 (HO.tup [V.int (endP 0 done + (k1 : Int)), V.ref v2, V.ref v4])
          have eu9 : upd H11 u9 (HO.tup [V.int (endP 0 done + (k1 : Int)), V.ref v2, V.ref v4]) u9 = _ := upd_same
          generalize upd H11 u9 (HO.tup [V.int (endP 0 done + (k1 : Int)), V.ref v2, V.ref v4]) = H12 at su9 eu9  ⊢
          have hcx : ChAt H12 (.ref u9) (endP 0 done + (k1 : Int), o, n) := ⟨u9, v2, v4, rfl, eu9, su9 _ _ q1, su9 _ _ ev4⟩
          have hC12 := (hC.same ((s7.trans s711).trans su9)).push hcx
          have hyl := hC.1
          have eN12 : ∀ X, upd H12 D X N = some (IL [(k1 : Int), (ol : Int), (nl : Int)]) := fun X => by
            rw [upd_ne (ne_of_none eY nN).symm]
            exact su9 _ _ eN11
          refine ⟨D, ys, _, rfl, rfl, su9 _ _ eY11, line_lt (by omega), ?_⟩
          refine ⟨_, eN12 _, l0, _, eN12 _, l1, ?_⟩
          have bo : Bytes o := by rw [← ho]; exact hWb.dt _ _
          have bn : Bytes n := by rw [← hn]; exact hWb.dt _ _
          rw [hI, g1, g2]
          refine ⟨Same.put (s5.trans (s7.trans (s711.trans su9))) nH _, done ++ [(endP 0 done + (k1 : Int), o, n)], j2 + ol + nl, _, _, _, _, _, _, _, upd_same, hC12.ups (su9 _ _ eY11) (fun _ e => by cases e), by rw [List.length_append, hdl]; rfl, hFd.snoc (fun e => ?_) (fun e => ?_) bo bn (by show o.length ≤ _; omega) (by show n.length ≤ _; omega) cE, hRd.snoc (by show endP 0 done ≤ endP 0 done + (k1 : Int); omega) ?_ bo bn, r5l, ?_, rfl⟩
          · show (0 : Int) ≤ endP 0 done + (k1 : Int)
            omega
          · have hp : 0 < done.length := List.length_pos_iff.mpr e
            show endP 0 done + 1 ≤ endP 0 done + (k1 : Int)
            omega
          · show (endP 0 done + (k1 : Int) - endP 0 done).toNat < _
            rw [show (endP 0 done + (k1 : Int) - endP 0 done).toNat = k1 by omega]
            exact hk1
          · rw [pbZ_snoc]
            show W.take (j2 + ol + nl) = [80, 65] ++ digs NN ++ (pbZ 0 done ++ (digs (endP 0 done + (k1 : Int) - endP 0 done).toNat ++ digs o.length ++ digs n.length ++ o ++ n))
            rw [lo, ln, show (endP 0 done + (k1 : Int) - endP 0 done).toNat = k1 by omega, List.take_add, List.take_add, ho, hn, hW2, hWj]
            simp only [List.append_assoc]
      · intro σ H5 h
        rw [hI] at h
        obtain ⟨s5, done, j, ys, y1, y6, y7, y8, y9, y10, eY, hC, hdl, hFd, hRd, hj, hWj, rfl⟩ := h
        have hbz : W.take j = bodyZ done := by rw [hWj, ← hdl]; rfl
        have hbl : (bodyZ done).length ≤ 90 := by rw [← hbz, List.length_take]; omega
        try simp only [tSeq, tAsg, tVar, tC, tOp, rI0, rI, tUn, rU, tIfS, tTest, tRet, tRetN, tDrop, tCB, tCons, tNil, tLst, tLstI, tTup, gName, tB, tAnd, tOr, tNot, tAndV, tOrV, tNotV, tIf, tNext, tBreak, tCont, gSub, tCall, tCallN, tAug, ipI, tBML, tBML0, isL_IL, isL_lst, L2.start, List.map_cons, List.map_nil, List.length_cons, List.length_nil, List.cons_append, List.nil_append, List.getElem?_cons_succ, List.getElem?_cons_zero, Option.some.injEq, exists_eq_left', exists_eq_left, exists_and_left, V.int.injEq, V.ref.injEq, V.bl.injEq, V.str.injEq, List.set_cons_zero, List.set_cons_succ, List.cons.injEq, and_true, true_and, Nat.reduceAdd, Nat.reduceSub, List.replicate_succ, List.replicate_zero, rIxI, rIxH, rIxTH, rSetI, rSetH, rCatI, rRepI, rSlI, rAppendI, rExtendI, decide_eq_true_eq, upd_same, IL_inj, HO.lst.injEq, toInts_cons, toInts_nil, Option.map_some, if_true, if_false, Bool.true_eq_false, Bool.false_eq_true, Bool.not_true, Bool.not_false, Bool.not_eq_true', decide_eq_false_iff_not, atI_0, atI_1, atI_2, atI_3, atI_4, Int.reduceToNat, Int.reduceLT, Int.reduceLE, Int.reduceNeg, Int.reducePow, cast_lit, upd_upd, Int.reduceAdd, Int.reduceMul, Int.reduceSub, Nat.reduceLT, Nat.reduceLeDiff, cmul_r, cdiv_r, tSl, tPart, tNoPart, rEq, rNe, scal_nn, scal_ii, scal_bb, scal_ss, scal_is, scal_si, V.ty.injEq, and_assoc, tyH_non, tyH_bl, tyH_int, tyH_str, tyH_ref, tyO_lst, tyO_IL, tyO_tup, itO_lst, itO_tup, itO_IL, Dw.rIxD, rLenI, rLenH, rLenTH, rLenQ, rLenB, rListI, Dw.rListS, rIntI, rIntB, rSumI, rIsiD, rIsX, tCallS, tMakeS, tMake, tMakeC, tMakeSC, tFld, sFld, HO.ins.injEq, HO.tup.injEq, cxOf_K, nox_K, tr_K, suite_K, rTupleI, rAllB, rAnyB, BL_inj, tChain, wOnly, wAs, wMany, rEqI, rNeI, Dw.rMax2, rMin2, Dw.rIsN, rIsNotN, rStrIn, rStrNotIn, not_true_eq_false, not_false_eq_true, reduceCtorEq, cl_bool, cl_int, cl_str, cl_list, cl_tuple, isB_NoneType_bool, isB_NoneType_int, isB_NoneType_str, isB_NoneType_list, isB_NoneType_tuple, isB_bool_bool, isB_bool_int, isB_bool_str, isB_bool_list, isB_bool_tuple, isB_int_bool, isB_int_int, isB_int_str, isB_int_list, isB_int_tuple, isB_str_bool, isB_str_int, isB_str_str, isB_str_list, isB_str_tuple, isB_list_bool, isB_list_int, isB_list_str, isB_list_list, isB_list_tuple, isB_tuple_bool, isB_tuple_int, isB_tuple_str, isB_tuple_list, isB_tuple_tuple, rSlCI, iRng3, iRev, gCons, gNil, iZip, iEnum, tLc_eq, tFor_eq, iRng1, iRng2, iList, iTup, rSetD, iKeys, tDNewK, Int.reducePow, Int.reduceNeg, iEz, tPar, tRevL, Dw.rSetL, Dw.rIxL, rIxE, iSeqA, rListTI]
        refine ⟨D, ys, done, rfl, eY, hC, hRd, by omega, by omega, fun r H6 s6 n6 e6 => ⟨r, rfl, _, e6, W, s6 _ _ (s5 _ _ hA), ?_⟩⟩
        rw [if_neg (fun e => hno done ⟨e.symm, hFd, by omega⟩)]
        exact kn H6 (s5.trans s6)
  · rw [if_pos c1]
    rcases kk with ⟨cs, hG, k⟩ | ⟨hno, kn⟩
    · exact absurd (by rw [hG.1]; rfl) c1
    · exact kn _ s2
end
section
variable {P : Program} {w : World} {K : PySem.W.Frag} {mg : Str → Option Value} {base : Heap} {A : Ad}
/-- a change as the law draws it -/
def Sml (c : Ch) : Prop := 0 ≤ c.1 ∧ c.1 < 16000 ∧ c.2.1.length ≤ 3 ∧ c.2.2.length ≤ 3 ∧ Bytes c.2.1 ∧ Bytes c.2.2
theorem sml_len : ∀ {cs : List Ch} {e : Int}, 0 ≤ e → (∀ c ∈ cs, Sml c) → (pbZ e cs).length ≤ 10 * cs.length
  | [], _, _, _ => Nat.le_refl _
  | c :: r, e, he, h => by
    obtain ⟨h1, h2, h3, h4, h5, h6⟩ := h c List.mem_cons_self
    have ih := sml_len (cs := r) (e := c.1 + c.2.1.length) (by omega) fun d hd => h d (List.mem_cons_of_mem _ hd)
    have d1 := digs_len 1 (c.1 - e).toNat (by show _ < 16384; omega)
    have d2 := digs_len 0 c.2.1.length (by show _ < 128; omega)
    have d3 := digs_len 0 c.2.2.length (by show _ < 128; omega)
    show (digs (c.1 - e).toNat ++ digs c.2.1.length ++ digs c.2.2.length ++ c.2.1 ++ c.2.2 ++ pbZ (c.1 + c.2.1.length) r).length ≤ 10 * (r.length + 1)
    simp only [List.length_append]
    omega
def spLaw (K : PySem.W.Frag) : Sp := fun vs H Q _ => ∃ (a : Addr) (ns : List Int), vs = [.ref a] ∧ SqL K H a (ns.map V.int) ∧ ns.length ≤ 63 ∧ ∀ H', Q (.bl true) H'
theorem ok_law (T : Tx K mg A) : FnOk P w K mg base CX0 9 A.f_law A.d_law ["script"] (spLaw K) := by
  refine T.F_law.ok sc_law (fun vs H Q E h => ?_) (fun cdv A' outer s H vs Q E hr h => ?_)
  · obtain ⟨a, ns, rfl, _⟩ := h
    rfl
  obtain ⟨a, ss, rfl, hS, hl, k⟩ := h
  refine ⟨_, (pss_cons (ps_set (i := 1) sc_law.nd rfl (Or.inr rfl) (pe_call (ok_law_pool T) (hr.mono (by decide)) rfl T.g_law_pool T.F_law_pool.kp T.b_law_pool .nil pass0 (pa_cons (pv 0) pa_nil)))
      (pss_cons (ps_set (i := 2) sc_law.nd rfl (Or.inl rfl) (pe_lst pa_nil))
      (pss_cons (ps_set (i := 3) sc_law.nd rfl (Or.inl rfl) (pe_op op_mul (pe_call (ok_law_draw T) (hr.mono (by decide)) rfl T.g_law_draw T.F_law_draw.kp T.b_law_draw .nil pass0 (pa_cons (pv 1) (pa_cons pe_int pa_nil))) (pe_call (ok_law_draw T) (hr.mono (by decide)) rfl T.g_law_draw T.F_law_draw.kp T.b_law_draw .nil pass0 (pa_cons (pv 1) (pa_cons pe_int pa_nil)))))
      (pss_cons (ps_for PassesOwn.never rfl (pi_range1 rfl T.z_range (pa_cons (pe_call (ok_law_draw T) (hr.mono (by decide)) rfl T.g_law_draw T.F_law_draw.kp T.b_law_draw .nil pass0 (pa_cons (pv 1) (pa_cons pe_int pa_nil))) pa_nil)) (pg_name (i := 4) sc_law.nd rfl (Or.inl rfl))
        (pss_cons (ps_set (i := 5) sc_law.nd rfl (Or.inl rfl) (pe_callTy call_tupleI (by rfl) T.z_tuple (by decide +kernel) (pa_cons (pe_lc (own := [("j", 6)]) (g := (gName 6)) (tt := tYes) rfl sc_law.nd (pi_range1 rfl T.z_range (pa_cons (pe_call (ok_law_draw T) (hr.mono (by decide)) rfl T.g_law_draw T.F_law_draw.kp T.b_law_draw .nil pass0 (pa_cons (pv 1) (pa_cons pe_int pa_nil))) pa_nil)) (blkOk_by (N := n_law) (sc := (defScope s_law)) (by decide +kernel)) (fun _ _ _ _ _ => (pg_name (i := 6) sc_law.nd rfl (Or.inl rfl))) (fun _ _ _ _ _ => pts_nil) (fun _ _ _ _ _ => (pe_call (ok_law_draw T) (hr.mono (by decide)) rfl T.g_law_draw T.F_law_draw.kp T.b_law_draw .nil pass0 (pa_cons (pv 1) (pa_cons pe_int pa_nil))))) pa_nil)))
      (pss_cons (ps_set (i := 7) sc_law.nd rfl (Or.inl rfl) (pe_callTy call_tupleI (by rfl) T.z_tuple (by decide +kernel) (pa_cons (pe_lc (own := [("j", 6)]) (g := (gName 6)) (tt := tYes) rfl sc_law.nd (pi_range1 rfl T.z_range (pa_cons (pe_call (ok_law_draw T) (hr.mono (by decide)) rfl T.g_law_draw T.F_law_draw.kp T.b_law_draw .nil pass0 (pa_cons (pv 1) (pa_cons pe_int pa_nil))) pa_nil)) (blkOk_by (N := n_law) (sc := (defScope s_law)) (by decide +kernel)) (fun _ _ _ _ _ => (pg_name (i := 6) sc_law.nd rfl (Or.inl rfl))) (fun _ _ _ _ _ => pts_nil) (fun _ _ _ _ _ => (pe_call (ok_law_draw T) (hr.mono (by decide)) rfl T.g_law_draw T.F_law_draw.kp T.b_law_draw .nil pass0 (pa_cons (pv 1) (pa_cons pe_int pa_nil))))) pa_nil)))
      (pss_one (ps_if (pt_cmpR (op_neD hr.units) (pv 5) (pv 7) (nomark _)) (pss_cons (ps_expr (PE.imp (pe_bm PySem.F.plainAttrs_list PySem.F.slot_list_append PySem.F.type_list_append mt_append (pv 2) (pa_cons (pe_tup (pa_cons (pv 3) (pa_cons (pv 5) (pa_cons (pv 7) pa_nil)))) pa_nil)) bml_imp))
      (pss_one (ps_set (i := 3) sc_law.nd rfl (Or.inl rfl) (pe_op op_add (pe_op op_add (pe_op op_add (pv 3) (pe_callB call_lenQ (by rfl) T.z_len (by decide +kernel) (pa_cons (pv 5) pa_nil))) pe_int) (pe_op op_mul (pe_call (ok_law_draw T) (hr.mono (by decide)) rfl T.g_law_draw T.F_law_draw.kp T.b_law_draw .nil pass0 (pa_cons (pv 1) (pa_cons pe_int pa_nil))) (pe_call (ok_law_draw T) (hr.mono (by decide)) rfl T.g_law_draw T.F_law_draw.kp T.b_law_draw .nil pass0 (pa_cons (pv 1) (pa_cons pe_int pa_nil)))))))) pss_nil)))))
      (pss_cons (ps_set (i := 8) sc_law.nd rfl (Or.inl rfl) (pe_call (ok_law_patch_row T) (hr.mono (by decide)) rfl T.g_law_patch_row T.F_law_patch_row.kp T.b_law_patch_row .nil pass0 (pa_cons (pv 2) pa_nil)))
      (pss_cons (ps_if (pt_not (pt_val (pe_call (ok_law_same T) (hr.mono (by decide)) rfl T.g_law_same T.F_law_same.kp T.b_law_same .nil pass0 (pa_cons (pe_call (ok_patch_bytes T) (hr.mono (by decide)) rfl T.g_patch_bytes T.F_patch_bytes.kp T.b_patch_bytes .nil pass0 (pa_cons (pe_makeC conv_patchG T.mk_Patch (ok_Patchinit T) (hr.mono (by decide)) rfl T.gc_Patch T.b_Patchinit Dw.passLN (pa_cons (pv 2) pa_nil)) pa_nil)) (pa_cons (pv 8) pa_nil))))) (pss_one (ps_ret pe_bl)) pss_nil)
      (pss_cons (ps_set (i := 9) sc_law.nd rfl (Or.inl rfl) (pe_call (ok_law_draw T) (hr.mono (by decide)) rfl T.g_law_draw T.F_law_draw.kp T.b_law_draw .nil pass0 (pa_cons (pv 1) (pa_cons pe_int pa_nil))))
      (pss_cons (ps_set (i := 10) sc_law.nd rfl (Or.inl rfl) (pe_call (ok_law_draw T) (hr.mono (by decide)) rfl T.g_law_draw T.F_law_draw.kp T.b_law_draw .nil pass0 (pa_cons (pv 1) (pa_cons (pe_callB call_lenI (by rfl) T.z_len (by decide +kernel) (pa_cons (pv 8) pa_nil)) pa_nil))))
      (pss_cons (ps_set (i := 11) sc_law.nd rfl (Or.inl rfl) (pe_slice sl_listI (pv 8) po_none (po_some (pe_un un_neg pe_int))))
      (pss_cons (ps_set (i := 12) sc_law.nd rfl (Or.inl rfl) (pe_callB (call_minI rfl) (by rfl) T.z_min (by decide +kernel) (pa_cons (pv 10) (pa_cons (pe_op op_sub (pe_callB call_lenI (by rfl) T.z_len (by decide +kernel) (pa_cons (pv 11) pa_nil)) pe_int) pa_nil))))
      (C8.pss_cut (ps_if (pt_cmpR op_eq (pv 9) pe_int (nomark _)) (pss_one (ps_asg (pe_call (ok_law_draw T) (hr.mono (by decide)) rfl T.g_law_draw T.F_law_draw.kp T.b_law_draw .nil pass0 (pa_cons (pv 1) (pa_cons pe_int pa_nil))) (pg_sub (pv 8) (pv 10) set_listI))) (pss_one (ps_if (pt_cmpR op_eq (pv 9) pe_int (nomark _)) (pss_one (ps_set (i := 8) sc_law.nd rfl (Or.inl rfl) (pe_slice sl_listI (pv 8) po_none (po_some (pv 10))))) (pss_one (ps_if (pt_cmpR op_eq (pv 9) pe_int (nomark _)) (pss_one (ps_set (i := 8) sc_law.nd rfl (Or.inl rfl) (pe_call (ok_law_sealed T) (hr.mono (by decide)) rfl T.g_law_sealed T.F_law_sealed.kp T.b_law_sealed .nil pass0 (pa_cons (pe_op op_catI (pe_op op_catI (pe_slice sl_listI (pv 11) po_none (po_some (pv 12))) (pe_lstI (pa_cons (pe_call (ok_law_draw T) (hr.mono (by decide)) rfl T.g_law_draw T.F_law_draw.kp T.b_law_draw .nil pass0 (pa_cons (pv 1) (pa_cons pe_int pa_nil))) pa_nil))) (pe_slice sl_listI (pv 11) (po_some (pe_op op_add (pv 12) pe_int)) po_none)) pa_nil)))) (pss_one (ps_if (pt_cmpR op_eq (pv 9) pe_int (nomark _)) (pss_one (ps_set (i := 8) sc_law.nd rfl (Or.inl rfl) (pe_call (ok_law_sealed T) (hr.mono (by decide)) rfl T.g_law_sealed T.F_law_sealed.kp T.b_law_sealed .nil pass0 (pa_cons (pe_op op_catI (pe_slice sl_listI (pv 11) po_none (po_some (pv 12))) (pe_slice sl_listI (pv 11) (po_some (pe_op op_add (pv 12) pe_int)) po_none)) pa_nil)))) (pss_one (ps_if (pt_cmpR op_eq (pv 9) pe_int (nomark _)) (pss_one (ps_set (i := 8) sc_law.nd rfl (Or.inl rfl) (pe_call (ok_law_sealed T) (hr.mono (by decide)) rfl T.g_law_sealed T.F_law_sealed.kp T.b_law_sealed .nil pass0 (pa_cons (pe_op op_catI (pe_op op_catI (pe_slice sl_listI (pv 11) po_none (po_some (pv 12))) (pe_lstI (pa_cons (pe_call (ok_law_draw T) (hr.mono (by decide)) rfl T.g_law_draw T.F_law_draw.kp T.b_law_draw .nil pass0 (pa_cons (pv 1) (pa_cons pe_int pa_nil))) pa_nil))) (pe_slice sl_listI (pv 11) (po_some (pv 12)) po_none)) pa_nil)))) (pss_one (ps_if (pt_cmpR op_eq (pv 9) pe_int (nomark _)) (pss_one (ps_set (i := 8) sc_law.nd rfl (Or.inl rfl) (pe_call (ok_law_sealed T) (hr.mono (by decide)) rfl T.g_law_sealed T.F_law_sealed.kp T.b_law_sealed .nil pass0 (pa_cons (pe_ix ix_seqD (pe_lst (pa_cons (pe_lstI (pa_cons pe_int (pa_cons pe_int (pa_cons pe_int (pa_cons pe_int (pa_cons pe_int (pa_cons pe_int (pa_cons pe_int (pa_cons pe_int pa_nil))))))))) (pa_cons (pe_lstI (pa_cons pe_int (pa_cons pe_int (pa_cons pe_int (pa_cons pe_int (pa_cons pe_int (pa_cons pe_int (pa_cons pe_int (pa_cons pe_int (pa_cons pe_int (pa_cons pe_int (pa_cons pe_int pa_nil)))))))))))) (pa_cons (pe_lstI (pa_cons pe_int (pa_cons pe_int (pa_cons pe_int (pa_cons pe_int pa_nil))))) (pa_cons (pe_lstI (pa_cons pe_int (pa_cons pe_int (pa_cons pe_int (pa_cons pe_int (pa_cons pe_int (pa_cons pe_int pa_nil))))))) (pa_cons (pe_lstI (pa_cons pe_int (pa_cons pe_int (pa_cons pe_int (pa_cons pe_int pa_nil))))) pa_nil)))))) (pe_call (ok_law_draw T) (hr.mono (by decide)) rfl T.g_law_draw T.F_law_draw.kp T.b_law_draw .nil pass0 (pa_cons (pv 1) (pa_cons pe_int pa_nil))) (fun _ _ => rfl)) pa_nil)))) pss_nil)))))))))))
      (pss_cons (ps_set (i := 13) sc_law.nd rfl (Or.inl rfl) (pe_call (ok_law_read_patch T) (hr.mono (by decide)) rfl T.g_law_read_patch T.F_law_read_patch.kp T.b_law_read_patch .nil pass0 (pa_cons (pv 8) pa_nil)))
      (pss_cons (ps_try_as (i := 15) rfl rfl sc_law.nd rfl rfl ⟨rfl, by decide, .inl T.x_BadBytes.g⟩ takes0 (fun W pn xe tk po => (pss_one (ps_set (i := 14) sc_law.nd rfl (Or.inl rfl) (pe_callS (ok_read_patch T) (hr.mono (by decide)) (by rfl) T.g_read_patch T.F_read_patch.kp T.b_read_patch (fun σ => passAt tk σ) (pa_cons (pv 8) pa_nil))))) (fun a oe cls d pn hz hf => (pss_one (ps_ret (pe_and (pe_cmpR op_isNone (pv 13) pe_non (nomark _)) (pe_one (pe_not (pe_callB (call_isX T.i_BadBytes hz hf) (by rfl) T.z_isinstance (by decide +kernel) (pa_cons (pv 15) (pa_cons (pe_glob (v := .ref A.c_InvalidPatch) rfl T.x_InvalidPatch.g rfl) pa_nil))))))))))
      (pss_one (ps_ret (pe_and (pe_cmpR op_notNone (pv 13) pe_non (nomark _)) (pe_one (pe_call (ok_law_same T) (hr.mono (by decide)) rfl T.g_law_same T.F_law_same.kp T.b_law_same .nil pass0 (pa_cons (pe_fld (pv 14) rfl) (pa_cons (pe_callTy call_tuple_of (by rfl) T.z_tuple (by decide +kernel) (pa_cons (pv 13) pa_nil)) pa_nil)))))))))))))))))))), ?_⟩
  try simp only [tSeq, tAsg, tVar, tC, tOp, rI0, rI, tUn, rU, tIfS, tTest, tRet, tRetN, tDrop, tCB, tCons, tNil, tLst, tLstI, tTup, gName, tB, tAnd, tOr, tNot, tAndV, tOrV, tNotV, tIf, tNext, tBreak, tCont, gSub, tCall, tCallN, tAug, ipI, tBML, tBML0, isL_IL, isL_lst, L2.start, List.map_cons, List.map_nil, List.length_cons, List.length_nil, List.cons_append, List.nil_append, List.getElem?_cons_succ, List.getElem?_cons_zero, Option.some.injEq, exists_eq_left', exists_eq_left, exists_and_left, V.int.injEq, V.ref.injEq, V.bl.injEq, V.str.injEq, List.set_cons_zero, List.set_cons_succ, List.cons.injEq, and_true, true_and, Nat.reduceAdd, Nat.reduceSub, List.replicate_succ, List.replicate_zero, rIxI, rIxH, rIxTH, rSetI, rSetH, rCatI, rRepI, rSlI, rAppendI, rExtendI, decide_eq_true_eq, upd_same, IL_inj, HO.lst.injEq, toInts_cons, toInts_nil, Option.map_some, if_true, if_false, Bool.true_eq_false, Bool.false_eq_true, Bool.not_true, Bool.not_false, Bool.not_eq_true', decide_eq_false_iff_not, atI_0, atI_1, atI_2, atI_3, atI_4, Int.reduceToNat, Int.reduceLT, Int.reduceLE, Int.reduceNeg, Int.reducePow, cast_lit, upd_upd, Int.reduceAdd, Int.reduceMul, Int.reduceSub, Nat.reduceLT, Nat.reduceLeDiff, cmul_r, cdiv_r, tSl, tPart, tNoPart, rEq, rNe, scal_nn, scal_ii, scal_bb, scal_ss, scal_is, scal_si, V.ty.injEq, and_assoc, tyH_non, tyH_bl, tyH_int, tyH_str, tyH_ref, tyO_lst, tyO_IL, tyO_tup, itO_lst, itO_tup, itO_IL, Dw.rIxD, rLenI, rLenH, rLenTH, rLenQ, rLenB, rListI, Dw.rListS, rIntI, rIntB, rSumI, rIsiD, rIsX, tCallS, tMakeS, tMake, tMakeC, tMakeSC, tFld, sFld, HO.ins.injEq, HO.tup.injEq, cxOf_K, nox_K, tr_K, suite_K, rTupleI, rAllB, rAnyB, BL_inj, tChain, wOnly, wAs, wMany, rEqI, rNeI, Dw.rMax2, rMin2, Dw.rIsN, rIsNotN, rStrIn, rStrNotIn, not_true_eq_false, not_false_eq_true, reduceCtorEq, cl_bool, cl_int, cl_str, cl_list, cl_tuple, isB_NoneType_bool, isB_NoneType_int, isB_NoneType_str, isB_NoneType_list, isB_NoneType_tuple, isB_bool_bool, isB_bool_int, isB_bool_str, isB_bool_list, isB_bool_tuple, isB_int_bool, isB_int_int, isB_int_str, isB_int_list, isB_int_tuple, isB_str_bool, isB_str_int, isB_str_str, isB_str_list, isB_str_tuple, isB_list_bool, isB_list_int, isB_list_str, isB_list_list, isB_list_tuple, isB_tuple_bool, isB_tuple_int, isB_tuple_str, isB_tuple_list, isB_tuple_tuple, iEz, tPar, tRevL, Dw.rSetL, Dw.rIxL, rIxE, iSeqA, rListTI]
  refine ⟨a, ss, rfl, hS, hl, fun p q H1 s1 np nq hP => ?_⟩
  try simp only [tSeq, tAsg, tVar, tC, tOp, rI0, rI, tUn, rU, tIfS, tTest, tRet, tRetN, tDrop, tCB, tCons, tNil, tLst, tLstI, tTup, gName, tB, tAnd, tOr, tNot, tAndV, tOrV, tNotV, tIf, tNext, tBreak, tCont, gSub, tCall, tCallN, tAug, ipI, tBML, tBML0, isL_IL, isL_lst, L2.start, List.map_cons, List.map_nil, List.length_cons, List.length_nil, List.cons_append, List.nil_append, List.getElem?_cons_succ, List.getElem?_cons_zero, Option.some.injEq, exists_eq_left', exists_eq_left, exists_and_left, V.int.injEq, V.ref.injEq, V.bl.injEq, V.str.injEq, List.set_cons_zero, List.set_cons_succ, List.cons.injEq, and_true, true_and, Nat.reduceAdd, Nat.reduceSub, List.replicate_succ, List.replicate_zero, rIxI, rIxH, rIxTH, rSetI, rSetH, rCatI, rRepI, rSlI, rAppendI, rExtendI, decide_eq_true_eq, upd_same, IL_inj, HO.lst.injEq, toInts_cons, toInts_nil, Option.map_some, if_true, if_false, Bool.true_eq_false, Bool.false_eq_true, Bool.not_true, Bool.not_false, Bool.not_eq_true', decide_eq_false_iff_not, atI_0, atI_1, atI_2, atI_3, atI_4, Int.reduceToNat, Int.reduceLT, Int.reduceLE, Int.reduceNeg, Int.reducePow, cast_lit, upd_upd, Int.reduceAdd, Int.reduceMul, Int.reduceSub, Nat.reduceLT, Nat.reduceLeDiff, cmul_r, cdiv_r, tSl, tPart, tNoPart, rEq, rNe, scal_nn, scal_ii, scal_bb, scal_ss, scal_is, scal_si, V.ty.injEq, and_assoc, tyH_non, tyH_bl, tyH_int, tyH_str, tyH_ref, tyO_lst, tyO_IL, tyO_tup, itO_lst, itO_tup, itO_IL, Dw.rIxD, rLenI, rLenH, rLenTH, rLenQ, rLenB, rListI, Dw.rListS, rIntI, rIntB, rSumI, rIsiD, rIsX, tCallS, tMakeS, tMake, tMakeC, tMakeSC, tFld, sFld, HO.ins.injEq, HO.tup.injEq, cxOf_K, nox_K, tr_K, suite_K, rTupleI, rAllB, rAnyB, BL_inj, tChain, wOnly, wAs, wMany, rEqI, rNeI, Dw.rMax2, rMin2, Dw.rIsN, rIsNotN, rStrIn, rStrNotIn, not_true_eq_false, not_false_eq_true, reduceCtorEq, cl_bool, cl_int, cl_str, cl_list, cl_tuple, isB_NoneType_bool, isB_NoneType_int, isB_NoneType_str, isB_NoneType_list, isB_NoneType_tuple, isB_bool_bool, isB_bool_int, isB_bool_str, isB_bool_list, isB_bool_tuple, isB_int_bool, isB_int_int, isB_int_str, isB_int_list, isB_int_tuple, isB_str_bool, isB_str_int, isB_str_str, isB_str_list, isB_str_tuple, isB_list_bool, isB_list_int, isB_list_str, isB_list_list, isB_list_tuple, isB_tuple_bool, isB_tuple_int, isB_tuple_str, isB_tuple_list, isB_tuple_tuple, rSlCI, iRng3, iRev, gCons, gNil, iZip, iEnum, tLc_eq, tFor_eq, iRng1, iRng2, iList, iTup, rSetD, iKeys, tDNewK, Int.reducePow, Int.reduceNeg, iEz, tPar, tRevL, Dw.rSetL, Dw.rIxL, rIxE, iSeqA, rListTI]
  refine ⟨Nat.zero_le _, fun D hD => ?_⟩
  have pD : p ≠ D := hP.ne hD
  have qD : q ≠ D := hP.ne2 hD
  have hP1 := hP.upd (o := HO.lst []) hD
  have eD : upd H1 D (HO.lst []) D = some (.lst []) := upd_same
  generalize upd H1 D (HO.lst []) = G1 at hP1 eD ⊢
  refine ⟨p, q, 3, rfl, hP1, by omega, by omega, fun b0 H2 a0 a1 hP2 s2 => ⟨p, q, 200, rfl, hP2, by omega, by omega, fun b1 H3 a2 a3 hP3 s3 => ?_⟩⟩
  have hm : ∀ {x y : Int}, 0 ≤ x → x < 3 → 0 ≤ y → y < 200 → 0 ≤ x * y ∧ x * y ≤ 398 := by
    intro x y h1 h2 h3 h4
    obtain rfl | rfl | rfl : x = 0 ∨ x = 1 ∨ x = 2 := by omega
    · omega
    · omega
    · omega
  have hat := hm a0 a1 a2 a3
  refine ⟨_, rfl, _, rfl, .inl ⟨by omega, by omega⟩, ?_⟩
  refine ⟨p, q, 6, rfl, hP3, by omega, by omega, fun m H4 m0 m1 hP4 s4 => ?_⟩
  try simp only [tSeq, tAsg, tVar, tC, tOp, rI0, rI, tUn, rU, tIfS, tTest, tRet, tRetN, tDrop, tCB, tCons, tNil, tLst, tLstI, tTup, gName, tB, tAnd, tOr, tNot, tAndV, tOrV, tNotV, tIf, tNext, tBreak, tCont, gSub, tCall, tCallN, tAug, ipI, tBML, tBML0, isL_IL, isL_lst, L2.start, List.map_cons, List.map_nil, List.length_cons, List.length_nil, List.cons_append, List.nil_append, List.getElem?_cons_succ, List.getElem?_cons_zero, Option.some.injEq, exists_eq_left', exists_eq_left, exists_and_left, V.int.injEq, V.ref.injEq, V.bl.injEq, V.str.injEq, List.set_cons_zero, List.set_cons_succ, List.cons.injEq, and_true, true_and, Nat.reduceAdd, Nat.reduceSub, List.replicate_succ, List.replicate_zero, rIxI, rIxH, rIxTH, rSetI, rSetH, rCatI, rRepI, rSlI, rAppendI, rExtendI, decide_eq_true_eq, upd_same, IL_inj, HO.lst.injEq, toInts_cons, toInts_nil, Option.map_some, if_true, if_false, Bool.true_eq_false, Bool.false_eq_true, Bool.not_true, Bool.not_false, Bool.not_eq_true', decide_eq_false_iff_not, atI_0, atI_1, atI_2, atI_3, atI_4, Int.reduceToNat, Int.reduceLT, Int.reduceLE, Int.reduceNeg, Int.reducePow, cast_lit, upd_upd, Int.reduceAdd, Int.reduceMul, Int.reduceSub, Nat.reduceLT, Nat.reduceLeDiff, cmul_r, cdiv_r, tSl, tPart, tNoPart, rEq, rNe, scal_nn, scal_ii, scal_bb, scal_ss, scal_is, scal_si, V.ty.injEq, and_assoc, tyH_non, tyH_bl, tyH_int, tyH_str, tyH_ref, tyO_lst, tyO_IL, tyO_tup, itO_lst, itO_tup, itO_IL, Dw.rIxD, rLenI, rLenH, rLenTH, rLenQ, rLenB, rListI, Dw.rListS, rIntI, rIntB, rSumI, rIsiD, rIsX, tCallS, tMakeS, tMake, tMakeC, tMakeSC, tFld, sFld, HO.ins.injEq, HO.tup.injEq, cxOf_K, nox_K, tr_K, suite_K, rTupleI, rAllB, rAnyB, BL_inj, tChain, wOnly, wAs, wMany, rEqI, rNeI, Dw.rMax2, rMin2, Dw.rIsN, rIsNotN, rStrIn, rStrNotIn, not_true_eq_false, not_false_eq_true, reduceCtorEq, cl_bool, cl_int, cl_str, cl_list, cl_tuple, isB_NoneType_bool, isB_NoneType_int, isB_NoneType_str, isB_NoneType_list, isB_NoneType_tuple, isB_bool_bool, isB_bool_int, isB_bool_str, isB_bool_list, isB_bool_tuple, isB_int_bool, isB_int_int, isB_int_str, isB_int_list, isB_int_tuple, isB_str_bool, isB_str_int, isB_str_str, isB_str_list, isB_str_tuple, isB_list_bool, isB_list_int, isB_list_str, isB_list_list, isB_list_tuple, isB_tuple_bool, isB_tuple_int, isB_tuple_str, isB_tuple_list, isB_tuple_tuple, rSlCI, iRng3, iRev, gCons, gNil, iZip, iEnum, tLc_eq, tFor_eq, iRng1, iRng2, iList, iTup, rSetD, iKeys, tDNewK, Int.reducePow, Int.reduceNeg, iEz, tPar, tRevL, Dw.rSetL, Dw.rIxL, rIxE, iSeqA, rListTI]
  refine ⟨by omega, by omega, ?_⟩
  have eD4 := s4 _ _ pD.symm (s3 _ _ pD.symm (s2 _ _ pD.symm eD))
  obtain ⟨I, hI⟩ : ∃ F : Nat → L2.St → Hp → Prop, F = (fun i σ H' => Pool H' p q ∧ ∃ (xs : List V) (cs : List Ch) (at1 : Int) (y4 y5 y7 : Option V), H' D = some (.lst xs) ∧ ChsAt H' xs cs ∧ cs.length ≤ i ∧ 0 ≤ at1 ∧ at1 ≤ 398 + 402 * i ∧ FitM 0 cs ∧ (∀ c ∈ cs, Sml c) ∧ (cs ≠ [] → endP 0 cs + 1 ≤ at1) ∧ σ = [some (V.ref a), some (V.ref p), some (V.ref D), some (V.int at1), y4, y5, none, y7, none, none, none, none, none, none, none, none]) := ⟨_, rfl⟩
  refine forR I (by rw [hI]; exact ⟨hP4, [], [], _, _, _, _, eD4, .nil, Nat.le_refl _, hat.1, by omega, trivial, (fun c hc => by cases hc), (fun h => absurd rfl h), rfl⟩) ?_ ?_
  · intro i σ H5 hi h
    rw [hI] at h
    obtain ⟨hP5, xs, cs, at1, y4, y5, y7, e1, hC, hn, h0, h1, hfc, hsm, hend, rfl⟩ := h
    try simp only [tSeq, tAsg, tVar, tC, tOp, rI0, rI, tUn, rU, tIfS, tTest, tRet, tRetN, tDrop, tCB, tCons, tNil, tLst, tLstI, tTup, gName, tB, tAnd, tOr, tNot, tAndV, tOrV, tNotV, tIf, tNext, tBreak, tCont, gSub, tCall, tCallN, tAug, ipI, tBML, tBML0, isL_IL, isL_lst, L2.start, List.map_cons, List.map_nil, List.length_cons, List.length_nil, List.cons_append, List.nil_append, List.getElem?_cons_succ, List.getElem?_cons_zero, Option.some.injEq, exists_eq_left', exists_eq_left, exists_and_left, V.int.injEq, V.ref.injEq, V.bl.injEq, V.str.injEq, List.set_cons_zero, List.set_cons_succ, List.cons.injEq, and_true, true_and, Nat.reduceAdd, Nat.reduceSub, List.replicate_succ, List.replicate_zero, rIxI, rIxH, rIxTH, rSetI, rSetH, rCatI, rRepI, rSlI, rAppendI, rExtendI, decide_eq_true_eq, upd_same, IL_inj, HO.lst.injEq, toInts_cons, toInts_nil, Option.map_some, if_true, if_false, Bool.true_eq_false, Bool.false_eq_true, Bool.not_true, Bool.not_false, Bool.not_eq_true', decide_eq_false_iff_not, atI_0, atI_1, atI_2, atI_3, atI_4, Int.reduceToNat, Int.reduceLT, Int.reduceLE, Int.reduceNeg, Int.reducePow, cast_lit, upd_upd, Int.reduceAdd, Int.reduceMul, Int.reduceSub, Nat.reduceLT, Nat.reduceLeDiff, cmul_r, cdiv_r, tSl, tPart, tNoPart, rEq, rNe, scal_nn, scal_ii, scal_bb, scal_ss, scal_is, scal_si, V.ty.injEq, and_assoc, tyH_non, tyH_bl, tyH_int, tyH_str, tyH_ref, tyO_lst, tyO_IL, tyO_tup, itO_lst, itO_tup, itO_IL, Dw.rIxD, rLenI, rLenH, rLenTH, rLenQ, rLenB, rListI, Dw.rListS, rIntI, rIntB, rSumI, rIsiD, rIsX, tCallS, tMakeS, tMake, tMakeC, tMakeSC, tFld, sFld, HO.ins.injEq, HO.tup.injEq, cxOf_K, nox_K, tr_K, suite_K, rTupleI, rAllB, rAnyB, BL_inj, tChain, wOnly, wAs, wMany, rEqI, rNeI, Dw.rMax2, rMin2, Dw.rIsN, rIsNotN, rStrIn, rStrNotIn, not_true_eq_false, not_false_eq_true, reduceCtorEq, cl_bool, cl_int, cl_str, cl_list, cl_tuple, isB_NoneType_bool, isB_NoneType_int, isB_NoneType_str, isB_NoneType_list, isB_NoneType_tuple, isB_bool_bool, isB_bool_int, isB_bool_str, isB_bool_list, isB_bool_tuple, isB_int_bool, isB_int_int, isB_int_str, isB_int_list, isB_int_tuple, isB_str_bool, isB_str_int, isB_str_str, isB_str_list, isB_str_tuple, isB_list_bool, isB_list_int, isB_list_str, isB_list_list, isB_list_tuple, isB_tuple_bool, isB_tuple_int, isB_tuple_str, isB_tuple_list, isB_tuple_tuple, rSlCI, iRng3, iRev, gCons, gNil, iZip, iEnum, tLc_eq, tFor_eq, iRng1, iRng2, iList, iTup, rSetD, iKeys, tDNewK, Int.reducePow, Int.reduceNeg, iEz, tPar, tRevL, Dw.rSetL, Dw.rIxL, rIxE, iSeqA, rListTI]
    refine ⟨p, q, 4, rfl, hP5, by omega, by omega, fun j1 H6 j10 j11 hP6 s6 => ⟨j1, rfl, by omega, by omega, fun B1 hB1 => ?_⟩⟩
    refine lc_pool (p := p) (q := q) (R := fun v => 0 ≤ v ∧ v < 256) (by omega) hP6 hB1 (fun _ => rfl) ?_ fun o H7 hol hob hP7 s7 eo => ?_
    · intro i2 H7 Q2 hi2 hP7 hs7 hq2
      try simp only [tSeq, tAsg, tVar, tC, tOp, rI0, rI, tUn, rU, tIfS, tTest, tRet, tRetN, tDrop, tCB, tCons, tNil, tLst, tLstI, tTup, gName, tB, tAnd, tOr, tNot, tAndV, tOrV, tNotV, tIf, tNext, tBreak, tCont, gSub, tCall, tCallN, tAug, ipI, tBML, tBML0, isL_IL, isL_lst, L2.start, List.map_cons, List.map_nil, List.length_cons, List.length_nil, List.cons_append, List.nil_append, List.getElem?_cons_succ, List.getElem?_cons_zero, Option.some.injEq, exists_eq_left', exists_eq_left, exists_and_left, V.int.injEq, V.ref.injEq, V.bl.injEq, V.str.injEq, List.set_cons_zero, List.set_cons_succ, List.cons.injEq, and_true, true_and, Nat.reduceAdd, Nat.reduceSub, List.replicate_succ, List.replicate_zero, rIxI, rIxH, rIxTH, rSetI, rSetH, rCatI, rRepI, rSlI, rAppendI, rExtendI, decide_eq_true_eq, upd_same, IL_inj, HO.lst.injEq, toInts_cons, toInts_nil, Option.map_some, if_true, if_false, Bool.true_eq_false, Bool.false_eq_true, Bool.not_true, Bool.not_false, Bool.not_eq_true', decide_eq_false_iff_not, atI_0, atI_1, atI_2, atI_3, atI_4, Int.reduceToNat, Int.reduceLT, Int.reduceLE, Int.reduceNeg, Int.reducePow, cast_lit, upd_upd, Int.reduceAdd, Int.reduceMul, Int.reduceSub, Nat.reduceLT, Nat.reduceLeDiff, cmul_r, cdiv_r, tSl, tPart, tNoPart, rEq, rNe, scal_nn, scal_ii, scal_bb, scal_ss, scal_is, scal_si, V.ty.injEq, and_assoc, tyH_non, tyH_bl, tyH_int, tyH_str, tyH_ref, tyO_lst, tyO_IL, tyO_tup, itO_lst, itO_tup, itO_IL, Dw.rIxD, rLenI, rLenH, rLenTH, rLenQ, rLenB, rListI, Dw.rListS, rIntI, rIntB, rSumI, rIsiD, rIsX, tCallS, tMakeS, tMake, tMakeC, tMakeSC, tFld, sFld, HO.ins.injEq, HO.tup.injEq, cxOf_K, nox_K, tr_K, suite_K, rTupleI, rAllB, rAnyB, BL_inj, tChain, wOnly, wAs, wMany, rEqI, rNeI, Dw.rMax2, rMin2, Dw.rIsN, rIsNotN, rStrIn, rStrNotIn, not_true_eq_false, not_false_eq_true, reduceCtorEq, cl_bool, cl_int, cl_str, cl_list, cl_tuple, isB_NoneType_bool, isB_NoneType_int, isB_NoneType_str, isB_NoneType_list, isB_NoneType_tuple, isB_bool_bool, isB_bool_int, isB_bool_str, isB_bool_list, isB_bool_tuple, isB_int_bool, isB_int_int, isB_int_str, isB_int_list, isB_int_tuple, isB_str_bool, isB_str_int, isB_str_str, isB_str_list, isB_str_tuple, isB_list_bool, isB_list_int, isB_list_str, isB_list_list, isB_list_tuple, isB_tuple_bool, isB_tuple_int, isB_tuple_str, isB_tuple_list, isB_tuple_tuple, rSlCI, iRng3, iRev, gCons, gNil, iZip, iEnum, tLc_eq, tFor_eq, iRng1, iRng2, iList, iTup, rSetD, iKeys, tDNewK, Int.reducePow, Int.reduceNeg, iEz, tPar, tRevL, Dw.rSetL, Dw.rIxL, rIxE, iSeqA, rListTI, wipe]
      exact ⟨p, q, 256, rfl, hP7, by omega, by omega, fun x H8 x0 x1 hP8 s8 => hq2 _ _ ⟨x0, x1⟩ hP8 s8⟩
    refine ⟨o, eo, fun a1 ha1 => ?_⟩
    have pa1 := hP7.ne ha1
    have e1' := s7 _ _ pD.symm (s6 _ _ pD.symm e1)
    have hC' := (hC.pool hP5 s6).pool hP6 s7
    have nD1 := ne_of_none e1' ha1
    have sa1 := same_new ha1 (HO.tup (o.map V.int))
    have ea1 : upd H7 a1 (HO.tup (o.map V.int)) a1 = _ := upd_same
    generalize upd H7 a1 (HO.tup (o.map V.int)) = G6 at sa1 ea1  ⊢
    replace hP7 := hP7.same sa1
    replace e1' := sa1 _ _ e1'
    replace hC' := hC'.same sa1
    refine ⟨p, q, 4, rfl, hP7, by omega, by omega, fun j2 H8 j20 j21 hP8 s8 => ⟨j2, rfl, by omega, by omega, fun B2 hB2 => ?_⟩⟩
    refine lc_pool (p := p) (q := q) (R := fun v => 0 ≤ v ∧ v < 256) (by omega) hP8 hB2 (fun _ => rfl) ?_ fun n H9 hnl hnb hP9 s9 en => ?_
    · intro i2 H7 Q2 hi2 hP7 hs7 hq2
      try simp only [tSeq, tAsg, tVar, tC, tOp, rI0, rI, tUn, rU, tIfS, tTest, tRet, tRetN, tDrop, tCB, tCons, tNil, tLst, tLstI, tTup, gName, tB, tAnd, tOr, tNot, tAndV, tOrV, tNotV, tIf, tNext, tBreak, tCont, gSub, tCall, tCallN, tAug, ipI, tBML, tBML0, isL_IL, isL_lst, L2.start, List.map_cons, List.map_nil, List.length_cons, List.length_nil, List.cons_append, List.nil_append, List.getElem?_cons_succ, List.getElem?_cons_zero, Option.some.injEq, exists_eq_left', exists_eq_left, exists_and_left, V.int.injEq, V.ref.injEq, V.bl.injEq, V.str.injEq, List.set_cons_zero, List.set_cons_succ, List.cons.injEq, and_true, true_and, Nat.reduceAdd, Nat.reduceSub, List.replicate_succ, List.replicate_zero, rIxI, rIxH, rIxTH, rSetI, rSetH, rCatI, rRepI, rSlI, rAppendI, rExtendI, decide_eq_true_eq, upd_same, IL_inj, HO.lst.injEq, toInts_cons, toInts_nil, Option.map_some, if_true, if_false, Bool.true_eq_false, Bool.false_eq_true, Bool.not_true, Bool.not_false, Bool.not_eq_true', decide_eq_false_iff_not, atI_0, atI_1, atI_2, atI_3, atI_4, Int.reduceToNat, Int.reduceLT, Int.reduceLE, Int.reduceNeg, Int.reducePow, cast_lit, upd_upd, Int.reduceAdd, Int.reduceMul, Int.reduceSub, Nat.reduceLT, Nat.reduceLeDiff, cmul_r, cdiv_r, tSl, tPart, tNoPart, rEq, rNe, scal_nn, scal_ii, scal_bb, scal_ss, scal_is, scal_si, V.ty.injEq, and_assoc, tyH_non, tyH_bl, tyH_int, tyH_str, tyH_ref, tyO_lst, tyO_IL, tyO_tup, itO_lst, itO_tup, itO_IL, Dw.rIxD, rLenI, rLenH, rLenTH, rLenQ, rLenB, rListI, Dw.rListS, rIntI, rIntB, rSumI, rIsiD, rIsX, tCallS, tMakeS, tMake, tMakeC, tMakeSC, tFld, sFld, HO.ins.injEq, HO.tup.injEq, cxOf_K, nox_K, tr_K, suite_K, rTupleI, rAllB, rAnyB, BL_inj, tChain, wOnly, wAs, wMany, rEqI, rNeI, Dw.rMax2, rMin2, Dw.rIsN, rIsNotN, rStrIn, rStrNotIn, not_true_eq_false, not_false_eq_true, reduceCtorEq, cl_bool, cl_int, cl_str, cl_list, cl_tuple, isB_NoneType_bool, isB_NoneType_int, isB_NoneType_str, isB_NoneType_list, isB_NoneType_tuple, isB_bool_bool, isB_bool_int, isB_bool_str, isB_bool_list, isB_bool_tuple, isB_int_bool, isB_int_int, isB_int_str, isB_int_list, isB_int_tuple, isB_str_bool, isB_str_int, isB_str_str, isB_str_list, isB_str_tuple, isB_list_bool, isB_list_int, isB_list_str, isB_list_list, isB_list_tuple, isB_tuple_bool, isB_tuple_int, isB_tuple_str, isB_tuple_list, isB_tuple_tuple, rSlCI, iRng3, iRev, gCons, gNil, iZip, iEnum, tLc_eq, tFor_eq, iRng1, iRng2, iList, iTup, rSetD, iKeys, tDNewK, Int.reducePow, Int.reduceNeg, iEz, tPar, tRevL, Dw.rSetL, Dw.rIxL, rIxE, iSeqA, rListTI, wipe]
      exact ⟨p, q, 256, rfl, hP7, by omega, by omega, fun x H8 x0 x1 hP8 s8 => hq2 _ _ ⟨x0, x1⟩ hP8 s8⟩
    refine ⟨n, en, fun a2 ha2 => ?_⟩
    have g1 := s9 _ _ pa1.symm (s8 _ _ pa1.symm ea1)
    have eDG := s9 _ _ pD.symm (s8 _ _ pD.symm e1')
    have hCG := (hC'.pool hP7 s8).pool hP8 s9
    have sa2 := same_new ha2 (HO.tup (n.map V.int))
    have ea2 : upd H9 a2 (HO.tup (n.map V.int)) a2 = _ := upd_same
    generalize upd H9 a2 (HO.tup (n.map V.int)) = G at sa2 ea2  ⊢
    replace hP9 := hP9.same sa2
    replace g1 := sa2 _ _ g1
    replace eDG := sa2 _ _ eDG
    replace hCG := hCG.same sa2
    refine ⟨_, _, Dt.dp _ _ (dt_tupI g1), Dt.dp _ _ (dt_tupI ea2), shaped_of (.tup .ints), shaped_of (.tup .ints), ?_⟩
    rw [PyData.eqv, eqvAll_ints]
    refine ⟨_, rfl, ?_⟩
    by_cases c : o = n
    · rw [decide_eq_true c]
      refine if_no (by decide) ?_
      rw [hI]
      exact ⟨hP9, xs, cs, at1, _, _, _, eDG, hCG, by omega, h0, by omega, hfc, hsm, hend, rfl⟩
    rw [decide_eq_false c]
    refine if_yes rfl ?_
    refine ⟨by rw [eDG]; rfl, line_le (by decide), fun u hu => ?_⟩
    have su := same_new hu (HO.tup [V.int at1, V.ref a1, V.ref a2])
    have eu : upd G u (HO.tup [V.int at1, V.ref a1, V.ref a2]) u = _ := upd_same
    generalize upd G u (HO.tup [V.int at1, V.ref a1, V.ref a2]) = G2 at su eu  ⊢
    replace hP9 := hP9.same su
    replace eDG := su _ _ eDG
    have hcx : ChAt G2 (.ref u) (at1, o, n) := ⟨u, a1, a2, rfl, eu, su _ _ g1, su _ _ ea2⟩
    have hps := ((hCG.same su).push hcx).ups (o' := .lst (xs ++ [.ref u])) eDG (fun _ e => by cases e)
    have hP11 := hP9.ups (o := .lst (xs ++ [.ref u])) pD qD
    have aD : a1 ≠ D := nD1.symm
    have hxn := hC.1
    refine ⟨D, xs, _, rfl, rfl, eDG, line_lt (by omega), ?_⟩
    have eD4 : upd G2 D (.lst (xs ++ [.ref u])) D = some (.lst (xs ++ [.ref u])) := upd_same
    have ea4 : upd G2 D (.lst (xs ++ [.ref u])) a1 = some (.tup (o.map V.int)) := by rw [upd_ne aD]; exact su _ _ g1
    generalize upd G2 D (.lst (xs ++ [.ref u])) = F at hps hP11 eD4 ea4 ⊢
    refine ⟨_, by rw [ea4]; rfl, ?_⟩
    refine ⟨p, q, 3, rfl, hP11, by omega, by omega, fun c0 H12 c00 c01 hP12 s12 => ⟨p, q, 200, rfl, hP12, by omega, by omega, fun c1 H13 c10 c11 hP13 s13 => ?_⟩⟩
    have hc := hm c00 c01 c10 c11
    refine ⟨_, rfl, _, rfl, .inl ⟨by omega, by omega⟩, ?_⟩
    rw [hI, List.length_map]
    refine ⟨hP13, _, cs ++ [(at1, o, n)], _, _, _, _, s13 _ _ pD.symm (s12 _ _ pD.symm eD4), (hps.pool hP11 s12).pool hP12 s13, by rw [List.length_append]; show cs.length + 1 ≤ _; omega, by omega, by omega, hfc.snoc (fun _ => h0) hend hob hnb (by show o.length ≤ _; omega) (by show n.length ≤ _; omega) c, fun d hd => ?_, fun _ => by rw [endP_snoc]; show at1 + (o.length : Int) + 1 ≤ _; omega, rfl⟩
    rcases List.mem_append.mp hd with h | h
    · exact hsm d h
    · rw [List.mem_singleton.mp h]
      exact ⟨h0, by show at1 < _; omega, by show o.length ≤ _; omega, by show n.length ≤ _; omega, hob, hnb⟩
  · intro σ H5 h
    rw [hI] at h
    obtain ⟨hP5, xs, cs, at1, y4, y5, y7, e1, hC, hn, h0, h1, hfc, hsm, hend, rfl⟩ := h
    have hcl : cs.length ≤ 5 := by omega
    clear hm
    try simp only [tSeq, tAsg, tVar, tC, tOp, rI0, rI, tUn, rU, tIfS, tTest, tRet, tRetN, tDrop, tCB, tCons, tNil, tLst, tLstI, tTup, gName, tB, tAnd, tOr, tNot, tAndV, tOrV, tNotV, tIf, tNext, tBreak, tCont, gSub, tCall, tCallN, tAug, ipI, tBML, tBML0, isL_IL, isL_lst, L2.start, List.map_cons, List.map_nil, List.length_cons, List.length_nil, List.cons_append, List.nil_append, List.getElem?_cons_succ, List.getElem?_cons_zero, Option.some.injEq, exists_eq_left', exists_eq_left, exists_and_left, V.int.injEq, V.ref.injEq, V.bl.injEq, V.str.injEq, List.set_cons_zero, List.set_cons_succ, List.cons.injEq, and_true, true_and, Nat.reduceAdd, Nat.reduceSub, List.replicate_succ, List.replicate_zero, rIxI, rIxH, rIxTH, rSetI, rSetH, rCatI, rRepI, rSlI, rAppendI, rExtendI, decide_eq_true_eq, upd_same, IL_inj, HO.lst.injEq, toInts_cons, toInts_nil, Option.map_some, if_true, if_false, Bool.true_eq_false, Bool.false_eq_true, Bool.not_true, Bool.not_false, Bool.not_eq_true', decide_eq_false_iff_not, atI_0, atI_1, atI_2, atI_3, atI_4, Int.reduceToNat, Int.reduceLT, Int.reduceLE, Int.reduceNeg, Int.reducePow, cast_lit, upd_upd, Int.reduceAdd, Int.reduceMul, Int.reduceSub, Nat.reduceLT, Nat.reduceLeDiff, cmul_r, cdiv_r, tSl, tPart, tNoPart, rEq, rNe, scal_nn, scal_ii, scal_bb, scal_ss, scal_is, scal_si, V.ty.injEq, and_assoc, tyH_non, tyH_bl, tyH_int, tyH_str, tyH_ref, tyO_lst, tyO_IL, tyO_tup, itO_lst, itO_tup, itO_IL, Dw.rIxD, rLenI, rLenH, rLenTH, rLenQ, rLenB, rListI, Dw.rListS, rIntI, rIntB, rSumI, rIsiD, rIsX, tCallS, tMakeS, tMake, tMakeC, tMakeSC, tFld, sFld, HO.ins.injEq, HO.tup.injEq, cxOf_K, nox_K, tr_K, suite_K, rTupleI, rAllB, rAnyB, BL_inj, tChain, wOnly, wAs, wMany, rEqI, rNeI, Dw.rMax2, rMin2, Dw.rIsN, rIsNotN, rStrIn, rStrNotIn, not_true_eq_false, not_false_eq_true, reduceCtorEq, cl_bool, cl_int, cl_str, cl_list, cl_tuple, isB_NoneType_bool, isB_NoneType_int, isB_NoneType_str, isB_NoneType_list, isB_NoneType_tuple, isB_bool_bool, isB_bool_int, isB_bool_str, isB_bool_list, isB_bool_tuple, isB_int_bool, isB_int_int, isB_int_str, isB_int_list, isB_int_tuple, isB_str_bool, isB_str_int, isB_str_str, isB_str_list, isB_str_tuple, isB_list_bool, isB_list_int, isB_list_str, isB_list_list, isB_list_tuple, isB_tuple_bool, isB_tuple_int, isB_tuple_str, isB_tuple_list, isB_tuple_tuple, rSlCI, iRng3, iRev, gCons, gNil, iZip, iEnum, tLc_eq, tFor_eq, iRng1, iRng2, iList, iTup, rSetD, iKeys, tDNewK, Int.reducePow, Int.reduceNeg, iEz, tPar, tRevL, Dw.rSetL, Dw.rIxL, rIxE, iSeqA, rListTI]
    have hpl := sml_len (e := 0) (Int.le_refl _) hsm
    have hRow := fit_row (e := 0) (Int.le_refl _) hfc (by omega)
    have hbl := bodyZ_len cs
    have dcl := digs_len 0 cs.length (by show _ < 128; omega)
    refine ⟨D, xs, cs, rfl, e1, hC, hRow, by omega, by omega, fun v H6 s6 n6 e6 => ?_⟩
    have hSm : SmallP cs := ⟨by omega, fun c hc => by
      obtain ⟨h1, h2, h3, h4, h5, h6⟩ := hsm c hc
      exact ⟨h1, h2, by omega, by omega, h5, h6⟩⟩
    refine ⟨D, xs, cs, rfl, s6 _ _ e1, hC.same s6, by omega, fun c hc => ?_, fun _ r H7 s7 n7 hr1 => ?_, fun h => absurd hfc h⟩
    · obtain ⟨h1, h2, h3, h4, h5, h6⟩ := hsm c hc
      exact ⟨h5, h6, by omega, by omega⟩
    refine ⟨r, cs, rfl, hr1, hSm, hfc, fun v2 H8 s8 n8 e8 => ?_⟩
    refine same_of (d := .list ((bytesP cs).map PyData.int)) (.list .ints) (dt_IL e8) (dt_IL (s8 _ _ (s7 _ _ e6))) ⟨true, rfl, ?_⟩
    rw [if_neg (by decide)]
    have eV := s8 _ _ (s7 _ _ e6)
    have hP8 := ((hP5.same s6).same s7).same s8
    have pv : p ≠ v := hP5.ne n6
    have hvl := bytesP_len cs
    refine ⟨p, q, 8, rfl, hP8, by omega, by omega, fun way H9 w0 w1 hP9 s9 => ?_⟩
    replace eV := s9 _ _ pv.symm eV
    refine ⟨v, rfl, _, eV, p, q, _, rfl, hP9, by omega, by omega, fun spot H10 t0 t1 hP10 s10 => ?_⟩
    replace eV := s10 _ _ pv.symm eV
    obtain ⟨sp, rfl⟩ := Int.eq_ofNat_of_zero_le t0
    refine ⟨v, rfl, _, eV, ?_⟩
    rw [cutI_to2, bytesP_take]
    intro b hb
    have pb := hP10.ne hb
    have sb := same_new hb (IL (bodyZ cs))
    have eb : upd H10 b (IL (bodyZ cs)) b = _ := upd_same
    generalize upd H10 b (IL (bodyZ cs)) = H11 at sb eb  ⊢
    have hP11 := hP10.same sb
    replace eV := sb _ _ eV
    refine ⟨_, rfl, ?_⟩
    obtain ⟨nr, hnr, hnl⟩ : ∃ nr : Nat, min (sp : Int) (((bodyZ cs).length : Int) - 1) = (nr : Int) ∧ nr < (bodyZ cs).length := ⟨min sp ((bodyZ cs).length - 1), by omega, by omega⟩
    rw [hnr]
    have bB := row_bytes hRow
    have bV : Bytes (bytesP cs) := (bytesP_all hSm).1
    obtain ⟨M, hM⟩ : ∃ F : L2.St → Hp → Prop, F = (fun σ' H' => Pool H' p q ∧ ∃ (v : Addr) (W : List Int) (y4 y5 y7 : Option V), H' v = some (IL W) ∧ Bytes W ∧ W.length ≤ 90 ∧ σ' = [some (V.ref a), some (V.ref p), some (V.ref D), some (V.int at1), y4, y5, none, y7, some (V.ref v), some (V.int way), some (V.int (sp : Int)), some (V.ref b), some (V.int (nr : Int)), none, none, none]) := ⟨_, rfl⟩
    refine ⟨M, ?_, ?_⟩
    · try simp only [tSeq, tAsg, tVar, tC, tOp, rI0, rI, tUn, rU, tIfS, tTest, tRet, tRetN, tDrop, tCB, tCons, tNil, tLst, tLstI, tTup, gName, tB, tAnd, tOr, tNot, tAndV, tOrV, tNotV, tIf, tNext, tBreak, tCont, gSub, tCall, tCallN, tAug, ipI, tBML, tBML0, isL_IL, isL_lst, L2.start, List.map_cons, List.map_nil, List.length_cons, List.length_nil, List.cons_append, List.nil_append, List.getElem?_cons_succ, List.getElem?_cons_zero, Option.some.injEq, exists_eq_left', exists_eq_left, exists_and_left, V.int.injEq, V.ref.injEq, V.bl.injEq, V.str.injEq, List.set_cons_zero, List.set_cons_succ, List.cons.injEq, and_true, true_and, Nat.reduceAdd, Nat.reduceSub, List.replicate_succ, List.replicate_zero, rIxI, rIxH, rIxTH, rSetI, rSetH, rCatI, rRepI, rSlI, rAppendI, rExtendI, decide_eq_true_eq, upd_same, IL_inj, HO.lst.injEq, toInts_cons, toInts_nil, Option.map_some, if_true, if_false, Bool.true_eq_false, Bool.false_eq_true, Bool.not_true, Bool.not_false, Bool.not_eq_true', decide_eq_false_iff_not, atI_0, atI_1, atI_2, atI_3, atI_4, Int.reduceToNat, Int.reduceLT, Int.reduceLE, Int.reduceNeg, Int.reducePow, cast_lit, upd_upd, Int.reduceAdd, Int.reduceMul, Int.reduceSub, Nat.reduceLT, Nat.reduceLeDiff, cmul_r, cdiv_r, tSl, tPart, tNoPart, rEq, rNe, scal_nn, scal_ii, scal_bb, scal_ss, scal_is, scal_si, V.ty.injEq, and_assoc, tyH_non, tyH_bl, tyH_int, tyH_str, tyH_ref, tyO_lst, tyO_IL, tyO_tup, itO_lst, itO_tup, itO_IL, Dw.rIxD, rLenI, rLenH, rLenTH, rLenQ, rLenB, rListI, Dw.rListS, rIntI, rIntB, rSumI, rIsiD, rIsX, tCallS, tMakeS, tMake, tMakeC, tMakeSC, tFld, sFld, HO.ins.injEq, HO.tup.injEq, cxOf_K, nox_K, tr_K, suite_K, rTupleI, rAllB, rAnyB, BL_inj, tChain, wOnly, wAs, wMany, rEqI, rNeI, Dw.rMax2, rMin2, Dw.rIsN, rIsNotN, rStrIn, rStrNotIn, not_true_eq_false, not_false_eq_true, reduceCtorEq, cl_bool, cl_int, cl_str, cl_list, cl_tuple, isB_NoneType_bool, isB_NoneType_int, isB_NoneType_str, isB_NoneType_list, isB_NoneType_tuple, isB_bool_bool, isB_bool_int, isB_bool_str, isB_bool_list, isB_bool_tuple, isB_int_bool, isB_int_int, isB_int_str, isB_int_list, isB_int_tuple, isB_str_bool, isB_str_int, isB_str_str, isB_str_list, isB_str_tuple, isB_list_bool, isB_list_int, isB_list_str, isB_list_list, isB_list_tuple, isB_tuple_bool, isB_tuple_int, isB_tuple_str, isB_tuple_list, isB_tuple_tuple, rSlCI, iRng3, iRev, gCons, gNil, iZip, iEnum, tLc_eq, tFor_eq, iRng1, iRng2, iList, iTup, rSetD, iKeys, tDNewK, Int.reducePow, Int.reduceNeg, iEz, tPar, tRevL, Dw.rSetL, Dw.rIxL, rIxE, iSeqA, rListTI]
      have lB : (bodyZ cs).length ≤ 53 := by omega
      have bt : ∀ n, Bytes ((bodyZ cs).take n) := fun n z hz => bB z (List.mem_of_mem_take hz)
      have bd : ∀ n, Bytes ((bodyZ cs).drop n) := fun n z hz => bB z (List.mem_of_mem_drop hz)
      have bap : ∀ {X Y : List Int}, Bytes X → Bytes Y → Bytes (X ++ Y) := fun h1 h2 z hz => (List.mem_append.mp hz).elim (h1 z) (h2 z)
      have b1 : ∀ {x : Int}, 0 ≤ x → x < 256 → Bytes [x] := fun h1 h2 z hz => by
        rw [List.mem_singleton.mp hz]
        exact ⟨h1, h2⟩
      have hseal : ∀ (G : Hp) (r : Addr) (X : List Int), Pool G p q → G r = some (IL X) → Bytes X → X.length ≤ 88 → spSealed [V.ref r] G (fun x H1 => M [some (V.ref a), some (V.ref p), some (V.ref D), some (V.int at1), y4, y5, none, y7, some x, some (V.int way), some (V.int (sp : Int)), some (V.ref b), some (V.int (nr : Int)), none, none, none] H1) E0 := by
        intro G r X hG hr hx hl
        have hc := crcZ_nn X
        refine ⟨r, X, rfl, hr, hx, by omega, fun r2 H' s n e => ?_⟩
        rw [hM]
        refine ⟨hG.same s, r2, _, y4, y5, y7, e, bap hx fun z hz => ?_, by rw [List.length_append]; show X.length + 2 ≤ _; omega, rfl⟩
        rcases List.mem_cons.mp hz with e | e
        · rw [e]; omega
        · rw [List.mem_singleton.mp e]; omega
      by_cases c0 : way = 0
      · rw [if_pos c0]
        refine ⟨p, q, 256, rfl, hP11, by omega, by omega, fun x G3 x0 x1 hPx sx => ⟨_, x, rfl, sx _ _ pv.symm eV, t0, t1, ?_⟩⟩
        rw [hM]
        refine ⟨hPx.ups pv (hP5.ne2 n6), v, _, y4, y5, y7, upd_same, fun z hz => ?_, by rw [List.length_set]; omega, rfl⟩
        rcases List.mem_or_eq_of_mem_set hz with h | h
        · exact bV z h
        · rw [h]
          exact ⟨x0, x1⟩
      rw [if_neg c0]
      by_cases c1 : way = 1
      · rw [if_pos c1]
        refine ⟨_, eV, ?_⟩
        rw [show cutI (bytesP cs) none (some (sp : Int)) = (bytesP cs).take sp from cutI_up _ sp]
        intro u1 m1
        have su1 := same_new m1 (IL ((bytesP cs).take sp))
        have eu1 : upd H11 u1 (IL ((bytesP cs).take sp)) u1 = _ := upd_same
        generalize upd H11 u1 (IL ((bytesP cs).take sp)) = G2 at su1 eu1  ⊢
        rw [hM]
        exact ⟨hP11.same su1, u1, _, y4, y5, y7, eu1, fun z hz => bV z (List.mem_of_mem_take hz), by rw [List.length_take]; omega, rfl⟩
      rw [if_neg c1]
      by_cases c2 : way = 2
      · rw [if_pos c2]
        refine ⟨_, eb, ?_⟩
        rw [show cutI (bodyZ cs) none (some (nr : Int)) = (bodyZ cs).take nr from cutI_up _ nr]
        intro u1 m1
        have pu1 := hP11.ne m1
        have su1 := same_new m1 (IL ((bodyZ cs).take nr))
        have eu1 : upd H11 u1 (IL ((bodyZ cs).take nr)) u1 = _ := upd_same
        generalize upd H11 u1 (IL ((bodyZ cs).take nr)) = G2 at su1 eu1  ⊢
        refine ⟨p, q, 256, rfl, hP11.same su1, by omega, by omega, fun x G3 x0 x1 hPx sx => ?_⟩
        replace eu1 := sx _ _ pu1.symm eu1
        have ebG := sx _ _ pb.symm (su1 _ _ eb)
        refine ⟨[x], rfl, line_le (by show 1 ≤ _; decide), ?_⟩
        intro u2 m2
        have su2 := same_new m2 (IL [x])
        have eu2 : upd G3 u2 (IL [x]) u2 = _ := upd_same
        generalize upd G3 u2 (IL [x]) = G4 at su2 eu2  ⊢
        refine ⟨_, su2 _ _ eu1, line_le (by rw [List.length_take]; show _ + 1 ≤ _; omega), fun u3 m3 => ?_⟩
        have su3 := same_new m3 (IL ((bodyZ cs).take nr ++ [x]))
        have eu3 : upd G4 u3 (IL ((bodyZ cs).take nr ++ [x])) u3 = _ := upd_same
        generalize upd G4 u3 (IL ((bodyZ cs).take nr ++ [x])) = G5 at su3 eu3  ⊢
        refine ⟨_, su3 _ _ (su2 _ _ ebG), ?_⟩
        rw [show cutI (bodyZ cs) (some ((nr : Int) + 1)) none = (bodyZ cs).drop (nr + 1) from cutI_fr _ (nr + 1)]
        intro u4 m4
        have su4 := same_new m4 (IL ((bodyZ cs).drop (nr + 1)))
        have eu4 : upd G5 u4 (IL ((bodyZ cs).drop (nr + 1))) u4 = _ := upd_same
        generalize upd G5 u4 (IL ((bodyZ cs).drop (nr + 1))) = G6 at su4 eu4  ⊢
        refine ⟨_, su4 _ _ eu3, line_le (by simp only [List.length_append, List.length_take, List.length_drop, List.length_cons, List.length_nil]; omega), fun u5 m5 => ?_⟩
        have su5 := same_new m5 (IL ((bodyZ cs).take nr ++ [x] ++ (bodyZ cs).drop (nr + 1)))
        have eu5 : upd G6 u5 (IL ((bodyZ cs).take nr ++ [x] ++ (bodyZ cs).drop (nr + 1))) u5 = _ := upd_same
        generalize upd G6 u5 (IL ((bodyZ cs).take nr ++ [x] ++ (bodyZ cs).drop (nr + 1))) = G7 at su5 eu5  ⊢
        exact hseal G7 u5 _ ((((hPx.same su2).same su3).same su4).same su5) eu5 (bap (bap (bt _) (b1 x0 (by omega))) (bd _)) (by simp only [List.length_append, List.length_take, List.length_drop, List.length_cons, List.length_nil]; omega)
      rw [if_neg c2]
      by_cases c3 : way = 3
      · rw [if_pos c3]
        refine ⟨_, eb, ?_⟩
        rw [show cutI (bodyZ cs) none (some (nr : Int)) = (bodyZ cs).take nr from cutI_up _ nr]
        intro u1 m1
        have su1 := same_new m1 (IL ((bodyZ cs).take nr))
        have eu1 : upd H11 u1 (IL ((bodyZ cs).take nr)) u1 = _ := upd_same
        generalize upd H11 u1 (IL ((bodyZ cs).take nr)) = G2 at su1 eu1  ⊢
        refine ⟨_, su1 _ _ eb, ?_⟩
        rw [show cutI (bodyZ cs) (some ((nr : Int) + 1)) none = (bodyZ cs).drop (nr + 1) from cutI_fr _ (nr + 1)]
        intro u2 m2
        have su2 := same_new m2 (IL ((bodyZ cs).drop (nr + 1)))
        have eu2 : upd G2 u2 (IL ((bodyZ cs).drop (nr + 1))) u2 = _ := upd_same
        generalize upd G2 u2 (IL ((bodyZ cs).drop (nr + 1))) = G3 at su2 eu2  ⊢
        refine ⟨_, su2 _ _ eu1, line_le (by simp only [List.length_take, List.length_drop]; omega), fun u3 m3 => ?_⟩
        have su3 := same_new m3 (IL ((bodyZ cs).take nr ++ (bodyZ cs).drop (nr + 1)))
        have eu3 : upd G3 u3 (IL ((bodyZ cs).take nr ++ (bodyZ cs).drop (nr + 1))) u3 = _ := upd_same
        generalize upd G3 u3 (IL ((bodyZ cs).take nr ++ (bodyZ cs).drop (nr + 1))) = G4 at su3 eu3  ⊢
        exact hseal G4 u3 _ (((hP11.same su1).same su2).same su3) eu3 (bap (bt _) (bd _)) (by simp only [List.length_append, List.length_take, List.length_drop]; omega)
      rw [if_neg c3]
      by_cases c4 : way = 4
      · rw [if_pos c4]
        refine ⟨_, eb, ?_⟩
        rw [show cutI (bodyZ cs) none (some (nr : Int)) = (bodyZ cs).take nr from cutI_up _ nr]
        intro u1 m1
        have pu1 := hP11.ne m1
        have su1 := same_new m1 (IL ((bodyZ cs).take nr))
        have eu1 : upd H11 u1 (IL ((bodyZ cs).take nr)) u1 = _ := upd_same
        generalize upd H11 u1 (IL ((bodyZ cs).take nr)) = G2 at su1 eu1  ⊢
        refine ⟨p, q, 9, rfl, hP11.same su1, by omega, by omega, fun x G3 x0 x1 hPx sx => ?_⟩
        replace eu1 := sx _ _ pu1.symm eu1
        have ebG := sx _ _ pb.symm (su1 _ _ eb)
        refine ⟨[x], rfl, line_le (by show 1 ≤ _; decide), ?_⟩
        intro u2 m2
        have su2 := same_new m2 (IL [x])
        have eu2 : upd G3 u2 (IL [x]) u2 = _ := upd_same
        generalize upd G3 u2 (IL [x]) = G4 at su2 eu2  ⊢
        refine ⟨_, su2 _ _ eu1, line_le (by rw [List.length_take]; show _ + 1 ≤ _; omega), fun u3 m3 => ?_⟩
        have su3 := same_new m3 (IL ((bodyZ cs).take nr ++ [x]))
        have eu3 : upd G4 u3 (IL ((bodyZ cs).take nr ++ [x])) u3 = _ := upd_same
        generalize upd G4 u3 (IL ((bodyZ cs).take nr ++ [x])) = G5 at su3 eu3  ⊢
        refine ⟨_, su3 _ _ (su2 _ _ ebG), ?_⟩
        rw [show cutI (bodyZ cs) (some (nr : Int)) none = (bodyZ cs).drop nr from cutI_fr _ nr]
        intro u4 m4
        have su4 := same_new m4 (IL ((bodyZ cs).drop nr))
        have eu4 : upd G5 u4 (IL ((bodyZ cs).drop nr)) u4 = _ := upd_same
        generalize upd G5 u4 (IL ((bodyZ cs).drop nr)) = G6 at su4 eu4  ⊢
        refine ⟨_, su4 _ _ eu3, line_le (by simp only [List.length_append, List.length_take, List.length_drop, List.length_cons, List.length_nil]; omega), fun u5 m5 => ?_⟩
        have su5 := same_new m5 (IL ((bodyZ cs).take nr ++ [x] ++ (bodyZ cs).drop nr))
        have eu5 : upd G6 u5 (IL ((bodyZ cs).take nr ++ [x] ++ (bodyZ cs).drop nr)) u5 = _ := upd_same
        generalize upd G6 u5 (IL ((bodyZ cs).take nr ++ [x] ++ (bodyZ cs).drop nr)) = G7 at su5 eu5  ⊢
        exact hseal G7 u5 _ ((((hPx.same su2).same su3).same su4).same su5) eu5 (bap (bap (bt _) (b1 x0 (by omega))) (bd _)) (by simp only [List.length_append, List.length_take, List.length_drop, List.length_cons, List.length_nil]; omega)
      rw [if_neg c4]
      by_cases c5 : way = 5
      · rw [if_pos c5]
        refine ⟨line_le (by decide), fun u1 m1 => ?_⟩
        have pu1 := hP11.ne m1
        have su1 := same_new m1 (IL [80, 65, 1, 0, 1, 1, 5, 5])
        have eu1 : upd H11 u1 (IL [80, 65, 1, 0, 1, 1, 5, 5]) u1 = _ := upd_same
        generalize upd H11 u1 (IL [80, 65, 1, 0, 1, 1, 5, 5]) = G1 at su1 eu1  ⊢
        have hPa := hP11.same su1
        refine ⟨line_le (by decide), fun u2 m2 => ?_⟩
        have pu2 := hPa.ne m2
        have su2 := same_new m2 (IL [80, 65, 2, 0, 1, 0, 5, 0, 1, 0, 6])
        have eu2 : upd G1 u2 (IL [80, 65, 2, 0, 1, 0, 5, 0, 1, 0, 6]) u2 = _ := upd_same
        generalize upd G1 u2 (IL [80, 65, 2, 0, 1, 0, 5, 0, 1, 0, 6]) = G2 at su2 eu2  ⊢
        replace hPa := hPa.same su2
        refine ⟨line_le (by decide), fun u3 m3 => ?_⟩
        have pu3 := hPa.ne m3
        have su3 := same_new m3 (IL [80, 65, 128, 0])
        have eu3 : upd G2 u3 (IL [80, 65, 128, 0]) u3 = _ := upd_same
        generalize upd G2 u3 (IL [80, 65, 128, 0]) = G3 at su3 eu3  ⊢
        replace hPa := hPa.same su3
        refine ⟨line_le (by decide), fun u4 m4 => ?_⟩
        have pu4 := hPa.ne m4
        have su4 := same_new m4 (IL [80, 65, 1, 0, 0, 0])
        have eu4 : upd G3 u4 (IL [80, 65, 1, 0, 0, 0]) u4 = _ := upd_same
        generalize upd G3 u4 (IL [80, 65, 1, 0, 0, 0]) = G4 at su4 eu4  ⊢
        replace hPa := hPa.same su4
        refine ⟨line_le (by decide), fun u5 m5 => ?_⟩
        have pu5 := hPa.ne m5
        have su5 := same_new m5 (IL [80, 65, 0, 0])
        have eu5 : upd G4 u5 (IL [80, 65, 0, 0]) u5 = _ := upd_same
        generalize upd G4 u5 (IL [80, 65, 0, 0]) = G5 at su5 eu5  ⊢
        replace hPa := hPa.same su5
        refine ⟨line_le (by decide), fun u6 m6 => ?_⟩
        have pu6 := hPa.ne m6
        have su6 := same_new m6 (HO.lst [V.ref u1, V.ref u2, V.ref u3, V.ref u4, V.ref u5])
        have eu6 : upd G5 u6 (HO.lst [V.ref u1, V.ref u2, V.ref u3, V.ref u4, V.ref u5]) u6 = _ := upd_same
        generalize upd G5 u6 (HO.lst [V.ref u1, V.ref u2, V.ref u3, V.ref u4, V.ref u5]) = G6 at su6 eu6  ⊢
        replace hPa := hPa.same su6
        refine ⟨p, q, 5, rfl, hPa, by omega, by omega, fun x G7 x0 x1 hPx sx => ?_⟩
        have f6 := sx _ _ pu6.symm eu6
        have f5 := sx _ _ pu5.symm (su6 _ _ eu5)
        have f4 := sx _ _ pu4.symm (su6 _ _ (su5 _ _ eu4))
        have f3 := sx _ _ pu3.symm (su6 _ _ (su5 _ _ (su4 _ _ eu3)))
        have f2 := sx _ _ pu2.symm (su6 _ _ (su5 _ _ (su4 _ _ (su3 _ _ eu2))))
        have f1 := sx _ _ pu1.symm (su6 _ _ (su5 _ _ (su4 _ _ (su3 _ _ (su2 _ _ eu1)))))
        have hby : ∀ X : List Int, (X.all fun z => decide (0 ≤ z) && decide (z < 256)) = true → Bytes X := fun X h z hz => by
          have := List.all_eq_true.mp h z hz
          rw [Bool.and_eq_true] at this
          exact ⟨of_decide_eq_true this.1, of_decide_eq_true this.2⟩
        refine ⟨_, x, rfl, by rw [f6]; rfl, ?_⟩
        obtain rfl | rfl | rfl | rfl | rfl : x = 0 ∨ x = 1 ∨ x = 2 ∨ x = 3 ∨ x = 4 := by omega
        · exact ⟨V.ref u1, rfl, hseal G7 u1 _ hPx f1 (hby _ (by decide)) (by decide)⟩
        · exact ⟨V.ref u2, rfl, hseal G7 u2 _ hPx f2 (hby _ (by decide)) (by decide)⟩
        · exact ⟨V.ref u3, rfl, hseal G7 u3 _ hPx f3 (hby _ (by decide)) (by decide)⟩
        · exact ⟨V.ref u4, rfl, hseal G7 u4 _ hPx f4 (hby _ (by decide)) (by decide)⟩
        · exact ⟨V.ref u5, rfl, hseal G7 u5 _ hPx f5 (hby _ (by decide)) (by decide)⟩
      rw [if_neg c5, hM]
      exact ⟨hP11, v, _, y4, y5, y7, eV, bV, by omega, rfl⟩
    · intro σ' H12 h
      rw [hM] at h
      obtain ⟨hP12, v, W, y4, y5, y7, eW, bW, lW, rfl⟩ := h
      try simp only [tSeq, tAsg, tVar, tC, tOp, rI0, rI, tUn, rU, tIfS, tTest, tRet, tRetN, tDrop, tCB, tCons, tNil, tLst, tLstI, tTup, gName, tB, tAnd, tOr, tNot, tAndV, tOrV, tNotV, tIf, tNext, tBreak, tCont, gSub, tCall, tCallN, tAug, ipI, tBML, tBML0, isL_IL, isL_lst, L2.start, List.map_cons, List.map_nil, List.length_cons, List.length_nil, List.cons_append, List.nil_append, List.getElem?_cons_succ, List.getElem?_cons_zero, Option.some.injEq, exists_eq_left', exists_eq_left, exists_and_left, V.int.injEq, V.ref.injEq, V.bl.injEq, V.str.injEq, List.set_cons_zero, List.set_cons_succ, List.cons.injEq, and_true, true_and, Nat.reduceAdd, Nat.reduceSub, List.replicate_succ, List.replicate_zero, rIxI, rIxH, rIxTH, rSetI, rSetH, rCatI, rRepI, rSlI, rAppendI, rExtendI, decide_eq_true_eq, upd_same, IL_inj, HO.lst.injEq, toInts_cons, toInts_nil, Option.map_some, if_true, if_false, Bool.true_eq_false, Bool.false_eq_true, Bool.not_true, Bool.not_false, Bool.not_eq_true', decide_eq_false_iff_not, atI_0, atI_1, atI_2, atI_3, atI_4, Int.reduceToNat, Int.reduceLT, Int.reduceLE, Int.reduceNeg, Int.reducePow, cast_lit, upd_upd, Int.reduceAdd, Int.reduceMul, Int.reduceSub, Nat.reduceLT, Nat.reduceLeDiff, cmul_r, cdiv_r, tSl, tPart, tNoPart, rEq, rNe, scal_nn, scal_ii, scal_bb, scal_ss, scal_is, scal_si, V.ty.injEq, and_assoc, tyH_non, tyH_bl, tyH_int, tyH_str, tyH_ref, tyO_lst, tyO_IL, tyO_tup, itO_lst, itO_tup, itO_IL, Dw.rIxD, rLenI, rLenH, rLenTH, rLenQ, rLenB, rListI, Dw.rListS, rIntI, rIntB, rSumI, rIsiD, rIsX, tCallS, tMakeS, tMake, tMakeC, tMakeSC, tFld, sFld, HO.ins.injEq, HO.tup.injEq, cxOf_K, nox_K, tr_K, suite_K, rTupleI, rAllB, rAnyB, BL_inj, tChain, wOnly, wAs, wMany, rEqI, rNeI, Dw.rMax2, rMin2, Dw.rIsN, rIsNotN, rStrIn, rStrNotIn, not_true_eq_false, not_false_eq_true, reduceCtorEq, cl_bool, cl_int, cl_str, cl_list, cl_tuple, isB_NoneType_bool, isB_NoneType_int, isB_NoneType_str, isB_NoneType_list, isB_NoneType_tuple, isB_bool_bool, isB_bool_int, isB_bool_str, isB_bool_list, isB_bool_tuple, isB_int_bool, isB_int_int, isB_int_str, isB_int_list, isB_int_tuple, isB_str_bool, isB_str_int, isB_str_str, isB_str_list, isB_str_tuple, isB_list_bool, isB_list_int, isB_list_str, isB_list_list, isB_list_tuple, isB_tuple_bool, isB_tuple_int, isB_tuple_str, isB_tuple_list, isB_tuple_tuple, rSlCI, iRng3, iRev, gCons, gNil, iZip, iEnum, tLc_eq, tFor_eq, iRng1, iRng2, iList, iTup, rSetD, iKeys, tDNewK, Int.reducePow, Int.reduceNeg, iEz, tPar, tRevL, Dw.rSetL, Dw.rIxL, rIxE, iSeqA, rListTI]
      by_cases hex : ∃ ds, Good W ds
      · obtain ⟨ds, hG⟩ := hex
        refine ⟨v, W, rfl, eW, bW, by omega, .inl ⟨ds, hG, fun r ys H13 s13 e13 hC13 => ?_⟩⟩
        refine ⟨v, W, rfl, s13 _ _ eW, bW, by omega, .inl ⟨ds, hG, fun r2 H14 s14 n14 hr2 => ?_⟩⟩
        obtain ⟨dx, tr, zs, r11, r12, r13⟩ := hr2
        rw [if_pos (by intro h; cases h)]
        refine ⟨r2, rfl, _, _, _, r11, T.cl_Patch, T.na_Patch_changes, _, rfl, r, rfl, _, .inl ⟨.of (s14 _ _ e13), fun l nl => ?_⟩⟩
        have sL := same_new nl (HO.tup ys)
        refine same_of (d := .tuple (ds.map chD)) (.tup (chs_shal _)) (.tup (sL _ _ r12) (r13.same sL).dt) (.tup upd_same (hC13.same (s14.trans sL)).dt) (k _)
      · have hno : ∀ ds, ¬ Good W ds := fun ds h => hex ⟨ds, h⟩
        refine ⟨v, W, rfl, eW, bW, by omega, .inr ⟨hno, fun H13 s13 => ?_⟩⟩
        refine ⟨v, W, rfl, s13 _ _ eW, bW, by omega, .inr ⟨hno, fun H14 s14 => ?_⟩⟩
        refine ⟨true, T.x_BadBytes.e, fun _ ae hae => ?_, (fun h => by cases h)⟩
        try simp only [tSeq, tAsg, tVar, tC, tOp, rI0, rI, tUn, rU, tIfS, tTest, tRet, tRetN, tDrop, tCB, tCons, tNil, tLst, tLstI, tTup, gName, tB, tAnd, tOr, tNot, tAndV, tOrV, tNotV, tIf, tNext, tBreak, tCont, gSub, tCall, tCallN, tAug, ipI, tBML, tBML0, isL_IL, isL_lst, L2.start, List.map_cons, List.map_nil, List.length_cons, List.length_nil, List.cons_append, List.nil_append, List.getElem?_cons_succ, List.getElem?_cons_zero, Option.some.injEq, exists_eq_left', exists_eq_left, exists_and_left, V.int.injEq, V.ref.injEq, V.bl.injEq, V.str.injEq, List.set_cons_zero, List.set_cons_succ, List.cons.injEq, and_true, true_and, Nat.reduceAdd, Nat.reduceSub, List.replicate_succ, List.replicate_zero, rIxI, rIxH, rIxTH, rSetI, rSetH, rCatI, rRepI, rSlI, rAppendI, rExtendI, decide_eq_true_eq, upd_same, IL_inj, HO.lst.injEq, toInts_cons, toInts_nil, Option.map_some, if_true, if_false, Bool.true_eq_false, Bool.false_eq_true, Bool.not_true, Bool.not_false, Bool.not_eq_true', decide_eq_false_iff_not, atI_0, atI_1, atI_2, atI_3, atI_4, Int.reduceToNat, Int.reduceLT, Int.reduceLE, Int.reduceNeg, Int.reducePow, cast_lit, upd_upd, Int.reduceAdd, Int.reduceMul, Int.reduceSub, Nat.reduceLT, Nat.reduceLeDiff, cmul_r, cdiv_r, tSl, tPart, tNoPart, rEq, rNe, scal_nn, scal_ii, scal_bb, scal_ss, scal_is, scal_si, V.ty.injEq, and_assoc, tyH_non, tyH_bl, tyH_int, tyH_str, tyH_ref, tyO_lst, tyO_IL, tyO_tup, itO_lst, itO_tup, itO_IL, Dw.rIxD, rLenI, rLenH, rLenTH, rLenQ, rLenB, rListI, Dw.rListS, rIntI, rIntB, rSumI, rIsiD, rIsX, tCallS, tMakeS, tMake, tMakeC, tMakeSC, tFld, sFld, HO.ins.injEq, HO.tup.injEq, cxOf_K, nox_K, tr_K, suite_K, rTupleI, rAllB, rAnyB, BL_inj, tChain, wOnly, wAs, wMany, rEqI, rNeI, Dw.rMax2, rMin2, Dw.rIsN, rIsNotN, rStrIn, rStrNotIn, not_true_eq_false, not_false_eq_true, reduceCtorEq, cl_bool, cl_int, cl_str, cl_list, cl_tuple, isB_NoneType_bool, isB_NoneType_int, isB_NoneType_str, isB_NoneType_list, isB_NoneType_tuple, isB_bool_bool, isB_bool_int, isB_bool_str, isB_bool_list, isB_bool_tuple, isB_int_bool, isB_int_int, isB_int_str, isB_int_list, isB_int_tuple, isB_str_bool, isB_str_int, isB_str_str, isB_str_list, isB_str_tuple, isB_list_bool, isB_list_int, isB_list_str, isB_list_list, isB_list_tuple, isB_tuple_bool, isB_tuple_int, isB_tuple_str, isB_tuple_list, isB_tuple_tuple, rSlCI, iRng3, iRev, gCons, gNil, iZip, iEnum, tLc_eq, tFor_eq, iRng1, iRng2, iList, iTup, rSetD, iKeys, tDNewK, Int.reducePow, Int.reduceNeg, iEz, tPar, tRevL, Dw.rSetL, Dw.rIxL, rIxE, iSeqA, rListTI]
        exact ⟨false, T.kit_BadBytes_InvalidPatch, k _⟩
end
theorem all_mk {l : PySem.W.OpenLaw} {w : World} {K : PySem.W.Frag} {h : Heap} {mg : Str → Option Value} {fa f1 f2 f3 f4 f5 f6 f7 f8 f9 f10 f11 f12 f13 f14 f15 f16 f17 f18 f19 f20 f21 f22 f23 C_Patch C_FIRST_BYTES C_InvalidPatch C_BadBytes : Addr} (X : K.In h) (G : h.Ns mainGlobals mg) (hfa : mg "law" = some (.ref fa))
    {od1 an1 od2 an2 od3 an3 od4 an4 od5 an5 od6 an6 od7 an7 od8 an8 od9 an9 od10 an10 od11 an11 od12 an12 od13 an13 od14 an14 od15 an15 od16 an16 od17 an17 od18 an18 od19 an19 od20 an20 od21 an21 od22 an22 od23 an23 : Option Addr} {sl1 sl2 sl3 sl4 sl5 sl6 sl7 sl8 sl9 sl10 sl11 sl12 sl13 sl14 sl15 sl16 sl17 sl18 sl19 sl20 sl21 sl22 sl23 sl_FIRST_BYTES : Array (Option Value)} {oc1 kV1 dc1 pm1 cd1 ct1 oc2 kV2 dc2 pm2 cd2 ct2 oc3 kV3 dc3 pm3 cd3 ct3 oc4 kV4 dc4 pm4 cd4 ct4 oc5 kV5 dc5 pm5 cd5 ct5 oc6 kV6 dc6 pm6 cd6 ct6 oc7 kV7 dc7 pm7 cd7 ct7 oc8 kV8 dc8 pm8 cd8 ct8 oc9 kV9 dc9 pm9 cd9 ct9 oc10 kV10 dc10 pm10 cd10 ct10 oc11 kV11 dc11 pm11 cd11 ct11 oc12 kV12 dc12 pm12 cd12 ct12 oc13 kV13 dc13 pm13 cd13 ct13 oc14 kV14 dc14 pm14 cd14 ct14 oc15 kV15 dc15 pm15 cd15 ct15 oc16 kV16 dc16 pm16 cd16 ct16 oc17 kV17 dc17 pm17 cd17 ct17 oc18 kV18 dc18 pm18 cd18 ct18 oc19 kV19 dc19 pm19 cd19 ct19 oc20 kV20 dc20 pm20 cd20 ct20 oc21 kV21 dc21 pm21 cd21 ct21 oc22 kV22 dc22 pm22 cd22 ct22 oc23 kV23 dc23 pm23 cd23 ct23 u_MOST_CHANGES : Value} {tk_FIRST_BYTES_0 tk_FIRST_BYTES_1 : Tok} {nn_FIRST_BYTES : Nat}
    (ac_Patch : PySem.W.nsIn K mainGlobals "Patch" = some (some (.ref C_Patch))) (pg_Patch : PySem.W.plainGet K C_Patch Str.empty = true) (hd_Patch : PySem.W.hasDictIn K C_Patch = true) (po_Patch : PySem.W.plainOver K C_Patch = true) (sa_Patch : PySem.W.findIn K (.ref C_Patch) "__setattr__" = some (some (.builtin "object.__setattr__"))) (mk_Patch : PySem.W.makesIn K C_Patch = true) (kc_Patch : PySem.W.keepIn K (.ref C_Patch) = true)
    (na_Patch_changes : PySem.W.findIn K (.ref C_Patch) "changes" = some none)
    (cn_MOST_CHANGES : PySem.W.nsIn K mainGlobals "MOST_CHANGES" = some (some u_MOST_CHANGES)) (rl_MOST_CHANGES : RelV (.int 500) u_MOST_CHANGES)
    (an_FIRST_BYTES : PySem.W.nsIn K mainGlobals "FIRST_BYTES" = some (some (.ref C_FIRST_BYTES))) (lk_FIRST_BYTES : K.lookup C_FIRST_BYTES = some ⟨.type "tuple", none, .seq #[.int 80 tk_FIRST_BYTES_0, .int 65 tk_FIRST_BYTES_1] nn_FIRST_BYTES, sl_FIRST_BYTES⟩)
    (a1 : PySem.W.nsIn K mainGlobals "are_bytes" = some (some (.ref f1))) (l1 : K.lookup f1 = some ⟨oc1, od1, .func (PySem.W.fnOf "are_bytes" "are_bytes" (defArgs s_are_bytes) (defBody s_are_bytes) (defScope s_are_bytes) .none kV1 dc1 pm1 an1 cd1 ct1), sl1⟩) (c1 : PySem.W.codeIn K cd1 "are_bytes" = true) (k1 : PySem.W.keepIn K (.ref f1) = true)
    (a2 : PySem.W.nsIn K mainGlobals "crc" = some (some (.ref f2))) (l2 : K.lookup f2 = some ⟨oc2, od2, .func (PySem.W.fnOf "crc" "crc" (defArgs s_crc) (defBody s_crc) (defScope s_crc) .none kV2 dc2 pm2 an2 cd2 ct2), sl2⟩) (c2 : PySem.W.codeIn K cd2 "crc" = true) (k2 : PySem.W.keepIn K (.ref f2) = true)
    (a3 : PySem.W.nsIn K mainGlobals "two_bytes" = some (some (.ref f3))) (l3 : K.lookup f3 = some ⟨oc3, od3, .func (PySem.W.fnOf "two_bytes" "two_bytes" (defArgs s_two_bytes) (defBody s_two_bytes) (defScope s_two_bytes) .none kV3 dc3 pm3 an3 cd3 ct3), sl3⟩) (c3 : PySem.W.codeIn K cd3 "two_bytes" = true) (k3 : PySem.W.keepIn K (.ref f3) = true)
    (a4 : PySem.W.nsIn K mainGlobals "write_number" = some (some (.ref f4))) (l4 : K.lookup f4 = some ⟨oc4, od4, .func (PySem.W.fnOf "write_number" "write_number" (defArgs s_write_number) (defBody s_write_number) (defScope s_write_number) .none kV4 dc4 pm4 an4 cd4 ct4), sl4⟩) (c4 : PySem.W.codeIn K cd4 "write_number" = true) (k4 : PySem.W.keepIn K (.ref f4) = true)
    (a5 : PySem.W.nsIn K mainGlobals "read_number" = some (some (.ref f5))) (l5 : K.lookup f5 = some ⟨oc5, od5, .func (PySem.W.fnOf "read_number" "read_number" (defArgs s_read_number) (defBody s_read_number) (defScope s_read_number) .none kV5 dc5 pm5 an5 cd5 ct5), sl5⟩) (c5 : PySem.W.codeIn K cd5 "read_number" = true) (k5 : PySem.W.keepIn K (.ref f5) = true)
    (j6 : PySem.W.isFn K (.ref f6) = true)
    (a6 : PySem.W.findIn K (.ref C_Patch) "__init__" = some (some (.ref f6))) (l6 : K.lookup f6 = some ⟨oc6, od6, .func (PySem.W.fnOf "__init__" "Patch.__init__" (defArgs s_Patchinit) (defBody s_Patchinit) (defScope s_Patchinit) .none kV6 dc6 pm6 an6 cd6 ct6), sl6⟩) (c6 : PySem.W.codeIn K cd6 "Patch.__init__" = true) (k6 : PySem.W.keepIn K (.ref f6) = true)
    (a7 : PySem.W.nsIn K mainGlobals "patch_bytes" = some (some (.ref f7))) (l7 : K.lookup f7 = some ⟨oc7, od7, .func (PySem.W.fnOf "patch_bytes" "patch_bytes" (defArgs s_patch_bytes) (defBody s_patch_bytes) (defScope s_patch_bytes) .none kV7 dc7 pm7 an7 cd7 ct7), sl7⟩) (c7 : PySem.W.codeIn K cd7 "patch_bytes" = true) (k7 : PySem.W.keepIn K (.ref f7) = true)
    (a8 : PySem.W.nsIn K mainGlobals "taken_bytes" = some (some (.ref f8))) (l8 : K.lookup f8 = some ⟨oc8, od8, .func (PySem.W.fnOf "taken_bytes" "taken_bytes" (defArgs s_taken_bytes) (defBody s_taken_bytes) (defScope s_taken_bytes) .none kV8 dc8 pm8 an8 cd8 ct8), sl8⟩) (c8 : PySem.W.codeIn K cd8 "taken_bytes" = true) (k8 : PySem.W.keepIn K (.ref f8) = true)
    (a9 : PySem.W.nsIn K mainGlobals "read_changes" = some (some (.ref f9))) (l9 : K.lookup f9 = some ⟨oc9, od9, .func (PySem.W.fnOf "read_changes" "read_changes" (defArgs s_read_changes) (defBody s_read_changes) (defScope s_read_changes) .none kV9 dc9 pm9 an9 cd9 ct9), sl9⟩) (c9 : PySem.W.codeIn K cd9 "read_changes" = true) (k9 : PySem.W.keepIn K (.ref f9) = true)
    (a10 : PySem.W.nsIn K mainGlobals "read_patch" = some (some (.ref f10))) (l10 : K.lookup f10 = some ⟨oc10, od10, .func (PySem.W.fnOf "read_patch" "read_patch" (defArgs s_read_patch) (defBody s_read_patch) (defScope s_read_patch) .none kV10 dc10 pm10 an10 cd10 ct10), sl10⟩) (c10 : PySem.W.codeIn K cd10 "read_patch" = true) (k10 : PySem.W.keepIn K (.ref f10) = true)
    (a11 : PySem.W.nsIn K mainGlobals "_law_pair" = some (some (.ref f11))) (l11 : K.lookup f11 = some ⟨oc11, od11, .func (PySem.W.fnOf "_law_pair" "_law_pair" (defArgs s_law_pair) (defBody s_law_pair) (defScope s_law_pair) .none kV11 dc11 pm11 an11 cd11 ct11), sl11⟩) (c11 : PySem.W.codeIn K cd11 "_law_pair" = true) (k11 : PySem.W.keepIn K (.ref f11) = true)
    (a12 : PySem.W.nsIn K mainGlobals "_law_pool" = some (some (.ref f12))) (l12 : K.lookup f12 = some ⟨oc12, od12, .func (PySem.W.fnOf "_law_pool" "_law_pool" (defArgs s_law_pool) (defBody s_law_pool) (defScope s_law_pool) .none kV12 dc12 pm12 an12 cd12 ct12), sl12⟩) (c12 : PySem.W.codeIn K cd12 "_law_pool" = true) (k12 : PySem.W.keepIn K (.ref f12) = true)
    (a13 : PySem.W.nsIn K mainGlobals "_law_spread" = some (some (.ref f13))) (l13 : K.lookup f13 = some ⟨oc13, od13, .func (PySem.W.fnOf "_law_spread" "_law_spread" (defArgs s_law_spread) (defBody s_law_spread) (defScope s_law_spread) .none kV13 dc13 pm13 an13 cd13 ct13), sl13⟩) (c13 : PySem.W.codeIn K cd13 "_law_spread" = true) (k13 : PySem.W.keepIn K (.ref f13) = true)
    (a14 : PySem.W.nsIn K mainGlobals "_law_draw" = some (some (.ref f14))) (l14 : K.lookup f14 = some ⟨oc14, od14, .func (PySem.W.fnOf "_law_draw" "_law_draw" (defArgs s_law_draw) (defBody s_law_draw) (defScope s_law_draw) .none kV14 dc14 pm14 an14 cd14 ct14), sl14⟩) (c14 : PySem.W.codeIn K cd14 "_law_draw" = true) (k14 : PySem.W.keepIn K (.ref f14) = true)
    (a15 : PySem.W.nsIn K mainGlobals "_law_same" = some (some (.ref f15))) (l15 : K.lookup f15 = some ⟨oc15, od15, .func (PySem.W.fnOf "_law_same" "_law_same" (defArgs s_law_same) (defBody s_law_same) (defScope s_law_same) .none kV15 dc15 pm15 an15 cd15 ct15), sl15⟩) (c15 : PySem.W.codeIn K cd15 "_law_same" = true) (k15 : PySem.W.keepIn K (.ref f15) = true)
    (a16 : PySem.W.nsIn K mainGlobals "_law_or" = some (some (.ref f16))) (l16 : K.lookup f16 = some ⟨oc16, od16, .func (PySem.W.fnOf "_law_or" "_law_or" (defArgs s_law_or) (defBody s_law_or) (defScope s_law_or) .none kV16 dc16 pm16 an16 cd16 ct16), sl16⟩) (c16 : PySem.W.codeIn K cd16 "_law_or" = true) (k16 : PySem.W.keepIn K (.ref f16) = true)
    (a17 : PySem.W.nsIn K mainGlobals "_law_check" = some (some (.ref f17))) (l17 : K.lookup f17 = some ⟨oc17, od17, .func (PySem.W.fnOf "_law_check" "_law_check" (defArgs s_law_check) (defBody s_law_check) (defScope s_law_check) .none kV17 dc17 pm17 an17 cd17 ct17), sl17⟩) (c17 : PySem.W.codeIn K cd17 "_law_check" = true) (k17 : PySem.W.keepIn K (.ref f17) = true)
    (a18 : PySem.W.nsIn K mainGlobals "_law_digits" = some (some (.ref f18))) (l18 : K.lookup f18 = some ⟨oc18, od18, .func (PySem.W.fnOf "_law_digits" "_law_digits" (defArgs s_law_digits) (defBody s_law_digits) (defScope s_law_digits) .none kV18 dc18 pm18 an18 cd18 ct18), sl18⟩) (c18 : PySem.W.codeIn K cd18 "_law_digits" = true) (k18 : PySem.W.keepIn K (.ref f18) = true)
    (a19 : PySem.W.nsIn K mainGlobals "_law_digits_at" = some (some (.ref f19))) (l19 : K.lookup f19 = some ⟨oc19, od19, .func (PySem.W.fnOf "_law_digits_at" "_law_digits_at" (defArgs s_law_digits_at) (defBody s_law_digits_at) (defScope s_law_digits_at) .none kV19 dc19 pm19 an19 cd19 ct19), sl19⟩) (c19 : PySem.W.codeIn K cd19 "_law_digits_at" = true) (k19 : PySem.W.keepIn K (.ref f19) = true)
    (a20 : PySem.W.nsIn K mainGlobals "_law_sealed" = some (some (.ref f20))) (l20 : K.lookup f20 = some ⟨oc20, od20, .func (PySem.W.fnOf "_law_sealed" "_law_sealed" (defArgs s_law_sealed) (defBody s_law_sealed) (defScope s_law_sealed) .none kV20 dc20 pm20 an20 cd20 ct20), sl20⟩) (c20 : PySem.W.codeIn K cd20 "_law_sealed" = true) (k20 : PySem.W.keepIn K (.ref f20) = true)
    (a21 : PySem.W.nsIn K mainGlobals "_law_patch_row" = some (some (.ref f21))) (l21 : K.lookup f21 = some ⟨oc21, od21, .func (PySem.W.fnOf "_law_patch_row" "_law_patch_row" (defArgs s_law_patch_row) (defBody s_law_patch_row) (defScope s_law_patch_row) .none kV21 dc21 pm21 an21 cd21 ct21), sl21⟩) (c21 : PySem.W.codeIn K cd21 "_law_patch_row" = true) (k21 : PySem.W.keepIn K (.ref f21) = true)
    (a22 : PySem.W.nsIn K mainGlobals "_law_read_patch" = some (some (.ref f22))) (l22 : K.lookup f22 = some ⟨oc22, od22, .func (PySem.W.fnOf "_law_read_patch" "_law_read_patch" (defArgs s_law_read_patch) (defBody s_law_read_patch) (defScope s_law_read_patch) .none kV22 dc22 pm22 an22 cd22 ct22), sl22⟩) (c22 : PySem.W.codeIn K cd22 "_law_read_patch" = true) (k22 : PySem.W.keepIn K (.ref f22) = true)
    (a23 : PySem.W.nsIn K mainGlobals "law" = some (some (.ref f23))) (l23 : K.lookup f23 = some ⟨oc23, od23, .func (PySem.W.fnOf "law" "law" (defArgs s_law) (defBody s_law) (defScope s_law) .none kV23 dc23 pm23 an23 cd23 ct23), sl23⟩) (c23 : PySem.W.codeIn K cd23 "law" = true) (k23 : PySem.W.keepIn K (.ref f23) = true)
    (z_all : PySem.W.nsIn K mainGlobals "all" = some none)
    (z_bool : PySem.W.nsIn K mainGlobals "bool" = some none)
    (z_int : PySem.W.nsIn K mainGlobals "int" = some none)
    (z_isinstance : PySem.W.nsIn K mainGlobals "isinstance" = some none)
    (z_len : PySem.W.nsIn K mainGlobals "len" = some none)
    (z_list : PySem.W.nsIn K mainGlobals "list" = some none)
    (z_min : PySem.W.nsIn K mainGlobals "min" = some none)
    (z_range : PySem.W.nsIn K mainGlobals "range" = some none)
    (z_reversed : PySem.W.nsIn K mainGlobals "reversed" = some none)
    (z_str : PySem.W.nsIn K mainGlobals "str" = some none)
    (z_tuple : PySem.W.nsIn K mainGlobals "tuple" = some none)
    (a_InvalidPatch : PySem.W.nsIn K mainGlobals "InvalidPatch" = some (some (.ref C_InvalidPatch))) (x_InvalidPatch : PySem.W.excIn K C_InvalidPatch [.type "ValueError", .type "Exception", .type "BaseException", .type "object"] "ValueError.__new__" = true) (k_InvalidPatch : PySem.W.keepIn K (.ref C_InvalidPatch) = true) (b_InvalidPatch : PySem.W.subIn K (.ref C_InvalidPatch) (.type "BaseException") = some true) (t_InvalidPatch : PySem.W.typeIn K (.ref C_InvalidPatch) = some (.type "type")) (i_InvalidPatch : PySem.W.isClsIn K C_InvalidPatch = true) (s_InvalidPatch : PySem.W.subIn K (.ref C_InvalidPatch) (.ref C_InvalidPatch) = some true)
    (a_BadBytes : PySem.W.nsIn K mainGlobals "BadBytes" = some (some (.ref C_BadBytes))) (x_BadBytes : PySem.W.excIn K C_BadBytes [.type "ValueError", .type "Exception", .type "BaseException", .type "object"] "ValueError.__new__" = true) (k_BadBytes : PySem.W.keepIn K (.ref C_BadBytes) = true) (b_BadBytes : PySem.W.subIn K (.ref C_BadBytes) (.type "BaseException") = some true) (t_BadBytes : PySem.W.typeIn K (.ref C_BadBytes) = some (.type "type")) (i_BadBytes : PySem.W.isClsIn K C_BadBytes = true) (s_BadBytes : PySem.W.subIn K (.ref C_BadBytes) (.ref C_BadBytes) = some true)
    (hg_BadBytes : PySem.W.findIn K (.ref C_BadBytes) "__getattribute__" = some (some (.builtin "BaseException.__getattribute__"))) (hk_BadBytes : PySem.W.findIn K (.ref C_BadBytes) "__getattr__" = some none) (hd_BadBytes : PySem.W.hasDictIn K C_BadBytes = true) (ha_BadBytes : PySem.W.findIn K (.ref C_BadBytes) "__class__" = some (some (.builtin "object.__class__"))) (hm_BadBytes : PySem.W.mroIn K C_BadBytes (.type "object") = some true)
    (hn_ : PySem.W.specialIn K (.builtin "object.__class__") "__get__" = some (some (.builtin "getset_descriptor.__get__"))) (ht_ : PySem.W.takesIn K (.builtin "object.__class__") = some true)
    (kit_BadBytes_InvalidPatch : PySem.W.kitOne K (.ref C_BadBytes) (.ref C_InvalidPatch) = some false)
    (s_BadBytes_InvalidPatch : PySem.W.subIn K (.ref C_BadBytes) (.ref C_InvalidPatch) = some false)
    : ∃ fd : FuncData, (∀ (s : Shared) (v : Value), BindsTo s fd ⟨[v], []⟩ [("script", v)]) ∧ ∀ base : Heap, K.In base → base.Ns mainGlobals mg → FnOk l.prog w K mg base CX0 9 fa fd ["script"] (spLaw K) := by
  have e := hfa.symm.trans (PySem.W.mg_of X G a23)
  cases e
  have F1 := fun_mk (st := s_are_bytes) l1 c1 k1
  have b1 := F1.binds (ps := ["values"]) fun _ _ _ _ _ _ us hl => match us, hl with | [_], _ => rfl
  have F2 := fun_mk (st := s_crc) l2 c2 k2
  have b2 := F2.binds (ps := ["values"]) fun _ _ _ _ _ _ us hl => match us, hl with | [_], _ => rfl
  have F3 := fun_mk (st := s_two_bytes) l3 c3 k3
  have b3 := F3.binds (ps := ["number"]) fun _ _ _ _ _ _ us hl => match us, hl with | [_], _ => rfl
  have F4 := fun_mk (st := s_write_number) l4 c4 k4
  have b4 := F4.binds (ps := ["number"]) fun _ _ _ _ _ _ us hl => match us, hl with | [_], _ => rfl
  have F5 := fun_mk (st := s_read_number) l5 c5 k5
  have b5 := F5.binds (ps := ["values", "at"]) fun _ _ _ _ _ _ us hl => match us, hl with | [_, _], _ => rfl
  have F6 := fun_mk (st := s_Patchinit) l6 c6 k6
  have b6 := F6.binds (ps := ["self", "changes"]) fun _ _ _ _ _ _ us hl => match us, hl with | [_, _], _ => rfl
  have F7 := fun_mk (st := s_patch_bytes) l7 c7 k7
  have b7 := F7.binds (ps := ["patch"]) fun _ _ _ _ _ _ us hl => match us, hl with | [_], _ => rfl
  have F8 := fun_mk (st := s_taken_bytes) l8 c8 k8
  have b8 := F8.binds (ps := ["values", "at", "count"]) fun _ _ _ _ _ _ us hl => match us, hl with | [_, _, _], _ => rfl
  have F9 := fun_mk (st := s_read_changes) l9 c9 k9
  have b9 := F9.binds (ps := ["values"]) fun _ _ _ _ _ _ us hl => match us, hl with | [_], _ => rfl
  have F10 := fun_mk (st := s_read_patch) l10 c10 k10
  have b10 := F10.binds (ps := ["values"]) fun _ _ _ _ _ _ us hl => match us, hl with | [_], _ => rfl
  have F11 := fun_mk (st := s_law_pair) l11 c11 k11
  have b11 := F11.binds (ps := ["number"]) fun _ _ _ _ _ _ us hl => match us, hl with | [_], _ => rfl
  have F12 := fun_mk (st := s_law_pool) l12 c12 k12
  have b12 := F12.binds (ps := ["script"]) fun _ _ _ _ _ _ us hl => match us, hl with | [_], _ => rfl
  have F13 := fun_mk (st := s_law_spread) l13 c13 k13
  have b13 := F13.binds (ps := ["cell"]) fun _ _ _ _ _ _ us hl => match us, hl with | [_], _ => rfl
  have F14 := fun_mk (st := s_law_draw) l14 c14 k14
  have b14 := F14.binds (ps := ["pool", "many"]) fun _ _ _ _ _ _ us hl => match us, hl with | [_, _], _ => rfl
  have F15 := fun_mk (st := s_law_same) l15 c15 k15
  have b15 := F15.binds (ps := ["actual", "due"]) fun _ _ _ _ _ _ us hl => match us, hl with | [_, _], _ => rfl
  have F16 := fun_mk (st := s_law_or) l16 c16 k16
  have b16 := F16.binds (ps := ["a", "b"]) fun _ _ _ _ _ _ us hl => match us, hl with | [_, _], _ => rfl
  have F17 := fun_mk (st := s_law_check) l17 c17 k17
  have b17 := F17.binds (ps := ["values"]) fun _ _ _ _ _ _ us hl => match us, hl with | [_], _ => rfl
  have F18 := fun_mk (st := s_law_digits) l18 c18 k18
  have b18 := F18.binds (ps := ["number"]) fun _ _ _ _ _ _ us hl => match us, hl with | [_], _ => rfl
  have F19 := fun_mk (st := s_law_digits_at) l19 c19 k19
  have b19 := F19.binds (ps := ["values", "at"]) fun _ _ _ _ _ _ us hl => match us, hl with | [_, _], _ => rfl
  have F20 := fun_mk (st := s_law_sealed) l20 c20 k20
  have b20 := F20.binds (ps := ["values"]) fun _ _ _ _ _ _ us hl => match us, hl with | [_], _ => rfl
  have F21 := fun_mk (st := s_law_patch_row) l21 c21 k21
  have b21 := F21.binds (ps := ["changes"]) fun _ _ _ _ _ _ us hl => match us, hl with | [_], _ => rfl
  have F22 := fun_mk (st := s_law_read_patch) l22 c22 k22
  have b22 := F22.binds (ps := ["values"]) fun _ _ _ _ _ _ us hl => match us, hl with | [_], _ => rfl
  have F23 := fun_mk (st := s_law) l23 c23 k23
  have b23 := F23.binds (ps := ["script"]) fun _ _ _ _ _ _ us hl => match us, hl with | [_], _ => rfl
  have T : Tx K mg ⟨f1, _, f2, _, f3, _, f4, _, f5, _, f6, _, f7, _, f8, _, f9, _, f10, _, f11, _, f12, _, f13, _, f14, _, f15, _, f16, _, f17, _, f18, _, f19, _, f20, _, f21, _, f22, _, fa, _, u_MOST_CHANGES, C_Patch, C_InvalidPatch, C_BadBytes, C_FIRST_BYTES⟩ := { F_are_bytes := F1, b_are_bytes := b1, g_are_bytes := PySem.W.mg_of X G a1, F_crc := F2, b_crc := b2, g_crc := PySem.W.mg_of X G a2, F_two_bytes := F3, b_two_bytes := b3, g_two_bytes := PySem.W.mg_of X G a3, F_write_number := F4, b_write_number := b4, g_write_number := PySem.W.mg_of X G a4, F_read_number := F5, b_read_number := b5, g_read_number := PySem.W.mg_of X G a5, F_Patchinit := F6, b_Patchinit := b6, mk_Patch := ⟨mk_Patch, a6, j6, kc_Patch⟩, F_patch_bytes := F7, b_patch_bytes := b7, g_patch_bytes := PySem.W.mg_of X G a7, F_taken_bytes := F8, b_taken_bytes := b8, g_taken_bytes := PySem.W.mg_of X G a8, F_read_changes := F9, b_read_changes := b9, g_read_changes := PySem.W.mg_of X G a9, F_read_patch := F10, b_read_patch := b10, g_read_patch := PySem.W.mg_of X G a10, F_law_pair := F11, b_law_pair := b11, g_law_pair := PySem.W.mg_of X G a11, F_law_pool := F12, b_law_pool := b12, g_law_pool := PySem.W.mg_of X G a12, F_law_spread := F13, b_law_spread := b13, g_law_spread := PySem.W.mg_of X G a13, F_law_draw := F14, b_law_draw := b14, g_law_draw := PySem.W.mg_of X G a14, F_law_same := F15, b_law_same := b15, g_law_same := PySem.W.mg_of X G a15, F_law_or := F16, b_law_or := b16, g_law_or := PySem.W.mg_of X G a16, F_law_check := F17, b_law_check := b17, g_law_check := PySem.W.mg_of X G a17, F_law_digits := F18, b_law_digits := b18, g_law_digits := PySem.W.mg_of X G a18, F_law_digits_at := F19, b_law_digits_at := b19, g_law_digits_at := PySem.W.mg_of X G a19, F_law_sealed := F20, b_law_sealed := b20, g_law_sealed := PySem.W.mg_of X G a20, F_law_patch_row := F21, b_law_patch_row := b21, g_law_patch_row := PySem.W.mg_of X G a21, F_law_read_patch := F22, b_law_read_patch := b22, g_law_read_patch := PySem.W.mg_of X G a22, F_law := F23, b_law := b23, g_law := PySem.W.mg_of X G a23, z_all := PySem.W.mg_none_of X G z_all, z_bool := PySem.W.mg_none_of X G z_bool, z_int := PySem.W.mg_none_of X G z_int, z_isinstance := PySem.W.mg_none_of X G z_isinstance, z_len := PySem.W.mg_none_of X G z_len, z_list := PySem.W.mg_none_of X G z_list, z_min := PySem.W.mg_none_of X G z_min, z_range := PySem.W.mg_none_of X G z_range, z_reversed := PySem.W.mg_none_of X G z_reversed, z_str := PySem.W.mg_none_of X G z_str, z_tuple := PySem.W.mg_none_of X G z_tuple, c_MOST_CHANGES := PySem.W.mg_of X G cn_MOST_CHANGES, r_MOST_CHANGES := rl_MOST_CHANGES, gc_Patch := PySem.W.mg_of X G ac_Patch, cl_Patch := ⟨pg_Patch, hd_Patch, po_Patch, sa_Patch⟩, na_Patch_changes := na_Patch_changes, x_InvalidPatch := ⟨PySem.W.mg_of X G a_InvalidPatch, x_InvalidPatch, k_InvalidPatch, b_InvalidPatch, t_InvalidPatch, exm_selfD b_InvalidPatch i_InvalidPatch t_InvalidPatch s_InvalidPatch⟩, x_BadBytes := ⟨PySem.W.mg_of X G a_BadBytes, x_BadBytes, k_BadBytes, b_BadBytes, t_BadBytes, exm_selfD b_BadBytes i_BadBytes t_BadBytes s_BadBytes⟩, ct_FIRST_BYTES := PySem.W.mg_of X G an_FIRST_BYTES, ty_FIRST_BYTES := ⟨_, lk_FIRST_BYTES, rfl, rfl⟩, tt_FIRST_BYTES := fun H => .inr ⟨_, _, _, lk_FIRST_BYTES, rfl, rfl, line_le (show 2 ≤ 16777216 by decide), (.cons ⟨_, rfl⟩ (.cons ⟨_, rfl⟩ .nil))⟩, i_BadBytes := ⟨hg_BadBytes, hk_BadBytes, b_BadBytes, hd_BadBytes, ha_BadBytes, hn_, ht_, hm_BadBytes⟩, kit_BadBytes_InvalidPatch := kit_BadBytes_InvalidPatch, exm_BadBytes_InvalidPatch := exm_otherD b_InvalidPatch i_InvalidPatch t_InvalidPatch s_BadBytes_InvalidPatch }
  exact ⟨_, fun s v => .of_eq rfl, fun base _ _ => ok_law T⟩
end K75
open PySem PySem.W PyProof.Rows
set_option maxRecDepth 100000 in
set_option maxHeartbeats 0 in
theorem PySem.Challenge.cw_discwright_k75_bytes_of_patches_holds : PySem.Challenge.rw_discwright_k75_bytes_of_patches.Holds := by
  w_on; o_law; k_head; (case hw => w_witness2)
  k_fill
  refine L2.walk_of (l := PySem.Challenge.rw_discwright_k75_bytes_of_patches) (n := 63) (k := 9) (x := "script") (CX := fun _ => L2.CX0) (sp := fun w => K75.spLaw _) rfl (by decide) rfl ⟨rfl, by decide, by decide⟩ (fun w h Y => PySem.W.kIn_of Y) ?F (fun _ _ a ns hl _ hS => ⟨a, ns, rfl, hS, hl, fun _ => rfl⟩) (fun _ _ _ _ _ h => h)
  case F =>
    intro w mg fa h KX G hmg
    refine' K75.all_mk KX G hmg ?ac_Patch ?pg_Patch ?hd_Patch ?po_Patch ?sa_Patch ?mk_Patch ?kc_Patch ?na_Patch_changes ?cn_MOST_CHANGES ?rl_MOST_CHANGES ?an_FIRST_BYTES ?lk_FIRST_BYTES ?a1 ?l1 ?c1 ?k1 ?a2 ?l2 ?c2 ?k2 ?a3 ?l3 ?c3 ?k3 ?a4 ?l4 ?c4 ?k4 ?a5 ?l5 ?c5 ?k5 ?j6 ?a6 ?l6 ?c6 ?k6 ?a7 ?l7 ?c7 ?k7 ?a8 ?l8 ?c8 ?k8 ?a9 ?l9 ?c9 ?k9 ?a10 ?l10 ?c10 ?k10 ?a11 ?l11 ?c11 ?k11 ?a12 ?l12 ?c12 ?k12 ?a13 ?l13 ?c13 ?k13 ?a14 ?l14 ?c14 ?k14 ?a15 ?l15 ?c15 ?k15 ?a16 ?l16 ?c16 ?k16 ?a17 ?l17 ?c17 ?k17 ?a18 ?l18 ?c18 ?k18 ?a19 ?l19 ?c19 ?k19 ?a20 ?l20 ?c20 ?k20 ?a21 ?l21 ?c21 ?k21 ?a22 ?l22 ?c22 ?k22 ?a23 ?l23 ?c23 ?k23 ?z_all ?z_bool ?z_int ?z_isinstance ?z_len ?z_list ?z_min ?z_range ?z_reversed ?z_str ?z_tuple ?a_InvalidPatch ?x_InvalidPatch ?k_InvalidPatch ?b_InvalidPatch ?t_InvalidPatch ?i_InvalidPatch ?s_InvalidPatch ?a_BadBytes ?x_BadBytes ?k_BadBytes ?b_BadBytes ?t_BadBytes ?i_BadBytes ?s_BadBytes ?hg_BadBytes ?hk_BadBytes ?hd_BadBytes ?ha_BadBytes ?hm_BadBytes ?hn_ ?ht_ ?kit_BadBytes_InvalidPatch ?s_BadBytes_InvalidPatch
    (case ac_Patch => k_is)
    (case pg_Patch => k_is)
    (case hd_Patch => k_is)
    (case po_Patch => k_is)
    (case sa_Patch => k_is)
    (case mk_Patch => k_is)
    (case kc_Patch => k_is)
    (case na_Patch_changes => k_is)
    (case cn_MOST_CHANGES => k_is)
    (case rl_MOST_CHANGES => first | exact ⟨_, rfl⟩ | rfl)
    (case an_FIRST_BYTES => k_is)
    (case lk_FIRST_BYTES => k_is)
    (case a1 => k_is)
    (case l1 => k_is)
    (case c1 => k_is)
    (case k1 => k_is)
    (case a2 => k_is)
    (case l2 => k_is)
    (case c2 => k_is)
    (case k2 => k_is)
    (case a3 => k_is)
    (case l3 => k_is)
    (case c3 => k_is)
    (case k3 => k_is)
    (case a4 => k_is)
    (case l4 => k_is)
    (case c4 => k_is)
    (case k4 => k_is)
    (case a5 => k_is)
    (case l5 => k_is)
    (case c5 => k_is)
    (case k5 => k_is)
    (case a6 => k_is)
    (case j6 => k_is)
    (case l6 => k_is)
    (case c6 => k_is)
    (case k6 => k_is)
    (case a7 => k_is)
    (case l7 => k_is)
    (case c7 => k_is)
    (case k7 => k_is)
    (case a8 => k_is)
    (case l8 => k_is)
    (case c8 => k_is)
    (case k8 => k_is)
    (case a9 => k_is)
    (case l9 => k_is)
    (case c9 => k_is)
    (case k9 => k_is)
    (case a10 => k_is)
    (case l10 => k_is)
    (case c10 => k_is)
    (case k10 => k_is)
    (case a11 => k_is)
    (case l11 => k_is)
    (case c11 => k_is)
    (case k11 => k_is)
    (case a12 => k_is)
    (case l12 => k_is)
    (case c12 => k_is)
    (case k12 => k_is)
    (case a13 => k_is)
    (case l13 => k_is)
    (case c13 => k_is)
    (case k13 => k_is)
    (case a14 => k_is)
    (case l14 => k_is)
    (case c14 => k_is)
    (case k14 => k_is)
    (case a15 => k_is)
    (case l15 => k_is)
    (case c15 => k_is)
    (case k15 => k_is)
    (case a16 => k_is)
    (case l16 => k_is)
    (case c16 => k_is)
    (case k16 => k_is)
    (case a17 => k_is)
    (case l17 => k_is)
    (case c17 => k_is)
    (case k17 => k_is)
    (case a18 => k_is)
    (case l18 => k_is)
    (case c18 => k_is)
    (case k18 => k_is)
    (case a19 => k_is)
    (case l19 => k_is)
    (case c19 => k_is)
    (case k19 => k_is)
    (case a20 => k_is)
    (case l20 => k_is)
    (case c20 => k_is)
    (case k20 => k_is)
    (case a21 => k_is)
    (case l21 => k_is)
    (case c21 => k_is)
    (case k21 => k_is)
    (case a22 => k_is)
    (case l22 => k_is)
    (case c22 => k_is)
    (case k22 => k_is)
    (case a23 => k_is)
    (case l23 => k_is)
    (case c23 => k_is)
    (case k23 => k_is)
    (case z_all => k_is)
    (case z_bool => k_is)
    (case z_int => k_is)
    (case z_isinstance => k_is)
    (case z_len => k_is)
    (case z_list => k_is)
    (case z_min => k_is)
    (case z_range => k_is)
    (case z_reversed => k_is)
    (case z_str => k_is)
    (case z_tuple => k_is)
    (case a_InvalidPatch => k_is)
    (case x_InvalidPatch => k_exc)
    (case k_InvalidPatch => k_is)
    (case b_InvalidPatch => k_is)
    (case t_InvalidPatch => k_is)
    (case i_InvalidPatch => k_is)
    (case s_InvalidPatch => first | rfl | k_is)
    (case a_BadBytes => k_is)
    (case x_BadBytes => k_exc)
    (case k_BadBytes => k_is)
    (case b_BadBytes => k_is)
    (case t_BadBytes => k_is)
    (case i_BadBytes => k_is)
    (case s_BadBytes => first | rfl | k_is)
    (case hg_BadBytes => k_is)
    (case hk_BadBytes => k_is)
    (case hd_BadBytes => k_is)
    (case ha_BadBytes => k_is)
    (case hm_BadBytes => k_is)
    (case hn_ => k_is)
    (case ht_ => k_is)
    (case kit_BadBytes_InvalidPatch => first | rfl | k_is)
    (case s_BadBytes_InvalidPatch => first | rfl | k_is)

