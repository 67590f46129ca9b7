import PyProof.Rows.All
import Wide.All
import OpenK.AllK
import Wide.FinOn
import PyProof.StrOps2
import HandS.ForMost
import HandS.ForExc
import HandS.EndBits
import HandS.Evl
import HandS.Wide
import HandS.IsInst
import HandS.More
import HandS.ExcInit
import HandS.ExcField
import HandS.TryMany
import HandS.Property
import HandS.ExcIs
import PySem.Challenge.RW_surepresses_k05_names_refused
set_option Elab.async false
set_option linter.all false
set_option maxRecDepth 100000
set_option maxHeartbeats 4000000
namespace L3
open PySem PySem.Spec PyProof.Rows L2

/-! ### numbers of any size -/
/-- * of two factors of together less than 130 million bits -/
def CMulB (i j : Int) : Prop := ∃ a b : Nat, i.natAbs < 2 ^ a ∧ j.natAbs < 2 ^ b ∧ a + b ≤ 130000000
theorem bits_of {x : Int} {a : Nat} (h : x.natAbs < 2 ^ a) : Builtin.Int.intBits x ≤ a + 1 := by
  unfold Builtin.Int.intBits
  by_cases h0 : x.natAbs = 0
  · split <;> simp_all
  · have := (Nat.log2_lt h0).mpr h
    split <;> omega
theorem CMulB.ok {i j : Int} (h : CMulB i j) : IntMulOk i j := by
  obtain ⟨a, b, ha, hb, hz⟩ := h
  have h1 := bits_of ha
  have h2 := bits_of hb
  have e : bitsLine = 134217728 := by decide
  unfold IntMulOk
  intro z
  rw [Bool.and_eq_true] at z
  have z2 := z.2
  unfold Builtin.Int.intTooBig at z2
  have z3 := of_decide_eq_true z2
  rw [e] at z3
  omega
section
variable {X : Cx}
theorem op_mulB : OpR X (binaryOp .Mult) (rI CMulB fun i j => .int (i * j)) := opI fun _ _ _ _ _ _ _ hc q => mul_int q hc.ok
theorem op_fdivB : OpR X (binaryOp .FloorDiv) (rI CDivW fun i j => .int (i / j)) := op_fdivW
/-- text * number -/
def repS (z : Str) (n : Nat) : Str := ⟨(List.replicate n z.cps).foldl (· ++ ·) #[]⟩
def rRepS : R2 := fun x y H Q => ∃ (z : Str) (n : Int), x = .str z ∧ y = .int n ∧ 0 ≤ n ∧ n ≤ 10000 ∧ z.length ≤ 1000 ∧ Q (.str (repS z n.toNat)) H
theorem repS_codes (z : Str) : ∀ n : Nat, (repS z n).cps.toList = (List.replicate n z.cps.toList).flatten := by
  have gen : ∀ (n : Nat) (acc : Array Nat), ((List.replicate n z.cps).foldl (· ++ ·) acc).toList = acc.toList ++ (List.replicate n z.cps.toList).flatten := by
    intro n
    induction n with
    | zero => intro acc; simp
    | succ n ih =>
      intro acc
      rw [List.replicate_succ, List.foldl_cons, ih, List.replicate_succ, List.flatten_cons, Array.toList_append, List.append_assoc]
  intro n
  unfold repS
  rw [gen]
  simp
theorem repS_len (z : Str) (n : Nat) : (repS z n).length = n * z.length := by
  show (repS z n).cps.size = n * z.cps.size
  rw [← Array.length_toList, repS_codes, List.length_flatten, List.map_replicate, List.sum_replicate_nat, Array.length_toList]
theorem repS_one (z : Str) : repS z 1 = z := by
  unfold repS
  simp [List.replicate]
theorem repS_nil (z : Str) (n : Nat) (h : z.cps = #[]) : repS z n = z := by
  unfold repS
  have : ∀ n : Nat, (List.replicate n z.cps).foldl (· ++ ·) #[] = (#[] : Array Nat) := by
    intro n
    induction n with
    | zero => rfl
    | succ n ih => rw [List.replicate_succ, List.foldl_cons, h]; rw [h] at ih; simpa using ih
  rw [this n, ← h]
theorem op_mul_si : OpR X (binaryOp .Mult) rRepS := by
  intro pins s σ H x y v u Q I rx ry h
  obtain ⟨z, n, rfl, rfl, h0, h1, hz, q⟩ := h
  obtain ⟨t, rfl⟩ := rx
  obtain ⟨t', rfl⟩ := ry
  have hlen : z.length * n.toNat ≤ 1000 * 10000 := Nat.mul_le_mul hz (by omega)
  refine PySem.P.mul_str ?_ ?_ ?_ ?_
  · rw [decide_eq_false (show ¬ n < -(2 ^ 63 : Int) by omega), decide_eq_false (show ¬ n ≥ 2 ^ 63 by omega)]
    rfl
  · intro a _ c
    have h2 : (100000 : Int) ≤ (2 ^ 63 - 1 : Int) / n := Int.le_ediv_of_mul_le (by omega) (by omega)
    omega
  · intro a _
    unfold Builtin.Str.tooLong
    rw [sizeLine_eq]
    exact decide_eq_false (by omega)
  · by_cases c : n < 1
    · rw [if_pos c]
      have e : n.toNat = 0 := by omega
      rw [e] at q
      exact ⟨by decide, .str (repS z 0), H, I.tok _, ⟨_, rfl⟩, q⟩
    · rw [if_neg c]
      by_cases c2 : (n == 1 || z.length == 0) = true
      · rw [if_pos c2]
        have e : repS z n.toNat = z := by
          rcases Bool.or_eq_true_iff.mp c2 with c3 | c3
          · have e1 : n = 1 := by simpa using c3
            rw [e1]
            exact repS_one z
          · have e1 : z.cps.size = 0 := by simpa [Str.length] using c3
            exact repS_nil z _ (Array.eq_empty_of_size_eq_zero e1)
        rw [e] at q
        exact ⟨.str z, H, I, ⟨_, rfl⟩, q⟩
      · rw [if_neg c2]
        exact ⟨by show (repS z n.toNat).length ≤ _; rw [repS_len, sizeLine_eq, Nat.mul_comm]; omega, .str (repS z n.toNat), H, I.tok _, ⟨_, rfl⟩, q⟩
end
/-! ### a def of the module that raises nothing -/
structure Df (P : Program) (w : World) (K : PySem.W.Frag) (mg : Str → Option Value) (base : Heap) (x : Str) (k : Nat) (ps : List Str) (sp : Sp) : Prop where
  ex : ∃ f fd, mg x = some (.ref f) ∧ PySem.W.keepIn K (.ref f) = true ∧ FnOk P w K mg base CX0 k f fd ps sp ∧ Binds K fd ps []
theorem pe_df {X : Cx} {x : Str} {k : Nat} {ps : List Str} {sp : Sp} {p pos : Pos} {e : Expr} {es : List Expr} {t : TA} (D : Df X.prog X.w X.K X.mg X.base x k ps sp) (hr : Room k X.A) (hg : Gl X x)
    (ha : PA X (e :: es) t) (hdb : (x == ("__debug__" : Str)) = false := by decide) (he : starEach (e :: es) X.env = (false, eval e X.env) :: starEach es X.env := by rfl) (hpl : (backTo pos (starEach es X.env)).any (·.1) = false := by rfl) :
    PE X (.Call (.Name x p) (e :: es) [] pos) (tCall sp [] E0 t) := by
  obtain ⟨f, fd, hm, hk, F, hb⟩ := D.ex
  exact pe_call F hr hg hm hk hb .nil pass0 ha hdb he hpl
/-- the built-ins that the module's text leaves alone -/
structure Bi (mg : Str → Option Value) : Prop where
  int : mg "int" = none
  abs : mg "abs" = none
  len : mg "len" = none
  range : mg "range" = none
  max : mg "max" = none
  min : mg "min" = none
  list : mg "list" = none
  tuple : mg "tuple" = none
  sorted : mg "sorted" = none
  all : mg "all" = none
  enumerate : mg "enumerate" = none
  isinstance : mg "isinstance" = none
  bool : mg "bool" = none
  str : mg "str" = none
/-! ### heaps: all but some addresses kept -/
def Kp (S : Addr → Prop) (H H' : Hp) : Prop := ∀ a o, ¬ S a → H a = some o → H' a = some o
theorem Kp.refl {S : Addr → Prop} {H : Hp} : Kp S H H := fun _ _ _ h => h
theorem Kp.trans {S : Addr → Prop} {H H1 H2 : Hp} (a : Kp S H H1) (b : Kp S H1 H2) : Kp S H H2 := fun x o n h => b x o n (a x o n h)
theorem Kp.of_ex {S : Addr → Prop} {H H' : Hp} (e : Evl.Ex H H') : Kp S H H' := fun a o _ h => e a o h
theorem Kp.new {S : Addr → Prop} {H : Hp} {p : Addr} {o : HO} (h : H p = none) : Kp S H (upd H p o) := .of_ex (Evl.Ex.new h)
theorem Kp.at {S : Addr → Prop} {H : Hp} {p : Addr} {o : HO} (h : S p) : Kp S H (upd H p o) := fun a u n e => by
  rw [upd_ne (fun z => n (by rw [z]; exact h))]
  exact e
/-- a thing that was not there before may change -/
theorem Kp.mut {S : Addr → Prop} {H H' : Hp} {p : Addr} {o : HO} (e : Kp S H H') (h : H p = none) : Kp S H (upd H' p o) := fun a u n ha => by
  rw [upd_ne (ne_of_none ha h)]
  exact e a u n ha
theorem Kp.free {S : Addr → Prop} {H H' : Hp} {p : Addr} (e : Kp S H H') (n : ¬ S p) (h : H' p = none) : H p = none := by
  cases q : H p with
  | none => rfl
  | some o =>
    rw [e p o n q] at h
    cases h

/-! ### readings that a simp can carry out -/
def lstAt (H : Hp) (p : Addr) : Option (List V) := match H p with
  | some (.lst xs) => some xs
  | some (.frz _ (.lst xs)) => some xs
  | _ => none
def tupAt (H : Hp) (p : Addr) : Option (List V) := match H p with
  | some (.tup xs) => some xs
  | _ => none
def seqAt (H : Hp) (p : Addr) : Option (List V) := match H p with
  | some (.lst xs) => some xs
  | some (.frz _ (.lst xs)) => some xs
  | some (.tup xs) => some xs
  | _ => none
theorem lstAt_sq {K : PySem.W.Frag} {H : Hp} {p : Addr} {xs : List V} (h : lstAt H p = some xs) : SqL K H p xs := by
  unfold lstAt at h
  split at h
  · rename_i ys e; cases h; exact .inl (.inl e)
  · rename_i o ys e; cases h; exact .inl (.inr ⟨o, e⟩)
  · cases h
theorem tupAt_sq {K : PySem.W.Frag} {H : Hp} {p : Addr} {xs : List V} (h : tupAt H p = some xs) : SqT K H p xs := by
  unfold tupAt at h
  split at h
  · rename_i ys e; cases h; exact .inl (.inl e)
  · cases h
theorem seqAt_sq {K : PySem.W.Frag} {H : Hp} {p : Addr} {xs : List V} (h : seqAt H p = some xs) : SqL K H p xs ∨ SqT K H p xs := by
  unfold seqAt at h
  split at h
  · rename_i ys e; cases h; exact .inl (.inl (.inl e))
  · rename_i o ys e; cases h; exact .inl (.inl (.inr ⟨o, e⟩))
  · rename_i ys e; cases h; exact .inr (.inl (.inl e))
  · cases h
theorem lstAt_of {H : Hp} {p : Addr} {xs : List V} (h : H p = some (.lst xs)) : lstAt H p = some xs := by unfold lstAt; rw [h]
theorem tupAt_of {H : Hp} {p : Addr} {xs : List V} (h : H p = some (.tup xs)) : tupAt H p = some xs := by unfold tupAt; rw [h]
theorem seqAt_lst {H : Hp} {p : Addr} {xs : List V} (h : H p = some (.lst xs)) : seqAt H p = some xs := by unfold seqAt; rw [h]
theorem seqAt_tup {H : Hp} {p : Addr} {xs : List V} (h : H p = some (.tup xs)) : seqAt H p = some xs := by unfold seqAt; rw [h]
theorem seqAt_of_lst {H : Hp} {p : Addr} {xs : List V} (h : lstAt H p = some xs) : seqAt H p = some xs := by
  unfold lstAt at h
  unfold seqAt
  cases q : H p with
  | none => rw [q] at h; cases h
  | some o =>
    rw [q] at h
    cases o with
    | lst ys => exact h
    | frz u v => cases v with
      | lst ys => exact h
      | _ => cases h
    | _ => cases h
theorem PE_of {X : Cx} {e : Expr} {t t' : TE} (h : PE X e t) (w : ∀ σ H Q, t' σ H Q → t σ H Q) : PE X e t' := ⟨fun pins s σ H Q I q => h.run pins s σ H Q I (w σ H Q q)⟩
theorem Op_of {X : Cx} {f : Value → Value → Sem Value} {r r' : R2} (h : OpR X f r) (w : ∀ x y H Q, r' x y H Q → r x y H Q) : OpR X f r' := fun pins s σ H x y v u Q I rx ry q => h pins s σ H x y v u Q I rx ry (w x y H Q q)
theorem Call_of {X : Cx} {f : Value} {r r' : List V → Hp → VK → Prop} (h : CallR X f r) (w : ∀ x H Q, r' x H Q → r x H Q) : CallR X f r' := fun pins s σ H xs us Q I rx q => h pins s σ H xs us Q I rx (w xs H Q q)
theorem Mt_of {X : Cx} {id : String} {r r' : V → List V → Hp → VK → Prop} (h : MtR X id r) (w : ∀ x xs H Q, r' x xs H Q → r x xs H Q) : MtR X id r' := fun pins s σ H x xs v us Q I rx ry q => h pins s σ H x xs v us Q I rx ry (w x xs H Q q)
section
variable {X : Cx}
def ixF : R2 := fun x y H Q => ∃ p i xs v, x = .ref p ∧ y = .int i ∧ seqAt H p = some xs ∧ atI xs i = some v ∧ Q v H
theorem ix_F : IxR X ixF := by
  intro value slice pins s σ H x y v u Q I rx ry h hs
  obtain ⟨p, i, xs, z, rfl, rfl, hq, he, q⟩ := h
  rcases seqAt_sq (K := X.K) hq with h | h
  · exact ix_list value slice pins s σ H _ _ v u Q I rx ry ⟨p, xs, i, z, rfl, rfl, h, he, q⟩ hs
  · exact ix_tup value slice pins s σ H _ _ v u Q I rx ry ⟨p, xs, i, z, rfl, rfl, h, he, q⟩ hs
/-- text[i], of one sign -/
def ixSF : R2 := fun x y H Q => ∃ z i c, x = .str z ∧ y = .int i ∧ z.length ≤ 100000 ∧ atI z.cps.toList i = some c ∧ Q (.str ⟨#[c]⟩) H
theorem ix_SF : IxR X ixSF := fun value slice pins s σ H x y v u Q I rx ry ⟨z, i, c, e1, e2, hz, he, q⟩ hs => ix_str value slice pins s σ H x y v u Q I rx ry ⟨z, i, c, e1, e2, Evl.sz_of hz, he, q⟩ hs
/-- a new object at p, all else kept -/
def New (H : Hp) (o : HO) (Q : Addr → Hp → Prop) : Prop := ∀ p H1, H p = none → Evl.Ex H H1 → H1 p = some o → Q p H1
theorem New.at {H : Hp} {o : HO} {Q : Addr → Hp → Prop} (h : New H o Q) {p : Addr} (hp : H p = none) : Q p (upd H p o) := h p _ hp (Evl.Ex.new hp) upd_same
def tLstF (t : TA) : TE := fun σ H Q => t σ H fun xs H1 => xs.length ≤ 100000 ∧ New H1 (.lst xs) fun p H2 => Q (.ref p) H2
def tTupF (t : TA) : TE := fun σ H Q => t σ H fun xs H1 => xs.length ≤ 100000 ∧ New H1 (.tup xs) fun p H2 => Q (.ref p) H2
/-- remainder, quotient by a letter -/
def rModL : R2 := fun x y H Q => ∃ i j, x = .int i ∧ y = .int j ∧ 0 < j ∧ ∀ r : Int, r = i % j → 0 ≤ r → r < j → Q (.int r) H
theorem op_modL : OpR X (binaryOp .Mod) rModL := Op_of op_mod fun x y H Q ⟨i, j, e1, e2, hj, q⟩ => ⟨i, j, e1, e2, hj, q _ rfl (Int.emod_nonneg _ (by omega)) (Int.emod_lt_of_pos _ hj)⟩
def rDivL : R2 := fun x y H Q => ∃ i j, x = .int i ∧ y = .int j ∧ CDivW i j ∧ ∀ r : Int, r = i / j → Q (.int r) H
theorem op_divL : OpR X (binaryOp .FloorDiv) rDivL := Op_of op_fdivW fun x y H Q ⟨i, j, e1, e2, hj, q⟩ => ⟨i, j, e1, e2, hj, q _ rfl⟩
def rMulL : R2 := fun x y H Q => ∃ i j, x = .int i ∧ y = .int j ∧ CMulB i j ∧ ∀ r : Int, r = i * j → Q (.int r) H
theorem op_mulL : OpR X (binaryOp .Mult) rMulL := Op_of op_mulB fun x y H Q ⟨i, j, e1, e2, hj, q⟩ => ⟨i, j, e1, e2, hj, q _ rfl⟩
def rPowL : R2 := fun x y H Q => ∃ i j, x = .int i ∧ y = .int j ∧ CPow i j ∧ ∀ r : Int, r = i ^ j.toNat → Q (.int r) H
theorem op_powL : OpR X (binaryOp .Pow) rPowL := Op_of op_pow fun x y H Q ⟨i, j, e1, e2, hj, q⟩ => ⟨i, j, e1, e2, hj, q _ rfl⟩
theorem nat_lt {x : Int} {a b : Nat} (h : x.natAbs < 2 ^ a) (l : a ≤ b) : x.natAbs < 2 ^ b := Nat.lt_of_lt_of_le h (Nat.pow_le_pow_right (by decide) l)
theorem add_lt {x y : Int} {a b : Nat} (h : x.natAbs < 2 ^ a) (h2 : y.natAbs < 2 ^ a) (l : a + 1 ≤ b) : (x + y).natAbs < 2 ^ b := by
  have h3 : 2 ^ (a + 1) ≤ 2 ^ b := Nat.pow_le_pow_right (by decide) l
  have h4 : 2 ^ (a + 1) = 2 ^ a + 2 ^ a := by rw [Nat.pow_succ]; omega
  omega
theorem pe_lstF {es : List Expr} {t : TA} {pos : Pos} (h : PA X es t) : PE X (.List es pos) (tLstF t) := by
  refine ⟨fun pins s σ H Q I hq => ?_⟩
  refine wpAny_List_spliced (thn (h.run pos pins s σ H _ I hq) fun us s1 ⟨xs, H1, I1, r, z, q⟩ => ⟨by rw [← r.length]; exact Evl.sz_of z, ?_⟩)
  have hf : H1 s1.heap.objs.size = none := I1.hok.fresh (Nat.le_refl _)
  refine ⟨.ref s1.heap.objs.size, upd H1 s1.heap.objs.size (.lst xs), I1.laid (t' := s1.toks) (fun b u e => Heap.get?_push_of_some _ e) (Nat.le_refl _) ?_, rfl, q.at hf⟩
  exact ⟨Evl.sz_of z, us, 0, r, Heap.get?_push_size _ rfl⟩
theorem pe_tupF {es : List Expr} {t : TA} {pos x1} (h : PA X es t) : PE X (.Tuple es x1 pos) (tTupF t) := by
  refine ⟨fun pins s σ H Q I hq => ?_⟩
  refine wpAny_Tuple_spliced (thn (h.run pos pins s σ H _ I hq) fun us s1 ⟨xs, H1, I1, r, z, q⟩ => ⟨by rw [← r.length]; exact Evl.sz_of z, ?_⟩)
  have hf : H1 s1.heap.objs.size = none := I1.hok.fresh (Nat.le_refl _)
  refine ⟨.ref s1.heap.objs.size, upd H1 s1.heap.objs.size (.tup xs), I1.laid (t' := s1.toks) (fun b u e => Heap.get?_push_of_some _ e) (Nat.le_refl _) ?_, rfl, q.at hf⟩
  exact ⟨Evl.sz_of z, us, r, ⟨_, Heap.get?_push_size _ rfl, rfl, _, rfl⟩⟩
def tDNewF : TE := fun _ H Q => New H (.dK []) fun p H1 => Q (.ref p) H1
theorem pe_dnewF {pos : Pos} : PE X (.Dict [] [] pos) tDNewF := PE_of pe_dnewK fun _ _ _ q _ hp => q.at hp
/-- a thing at p is another now, all else kept -/
def Put (H : Hp) (p : Addr) (o : HO) (Q : Hp → Prop) : Prop := ∀ H1, Kp (· = p) H H1 → H1 p = some o → Q H1
theorem Put.at {H : Hp} {o : HO} {p : Addr} {Q : Hp → Prop} (h : Put H p o Q) : Q (upd H p o) := h _ (Kp.at rfl) upd_same
def rCatF : R2 := fun x y H Q => ∃ l b xs zs, x = .ref l ∧ y = .ref b ∧ H l = some (.lst xs) ∧ H b = some (.lst zs) ∧ xs.length + zs.length ≤ 100000 ∧ New H (.lst (xs ++ zs)) fun p H1 => Q (.ref p) H1
theorem op_catF : OpR X (binaryOp .Add) rCatF := Op_of op_cat fun x y H Q ⟨l, b, xs, zs, e1, e2, h1, h2, z, q⟩ => ⟨l, b, xs, zs, e1, e2, h1, h2, Evl.sz_of z, fun _ hp => q.at hp⟩
def rRepF : R2 := fun x y H Q => ∃ l k xs, x = .ref l ∧ y = .int k ∧ H l = some (.lst xs) ∧ -(2 ^ 63) ≤ k ∧ k < 2 ^ 63 ∧ xs.length * k.toNat ≤ 100000 ∧ New H (.lst (List.replicate k.toNat xs).flatten) fun p H1 => Q (.ref p) H1
theorem op_repF : OpR X (binaryOp .Mult) rRepF := Op_of op_rep fun x y H Q ⟨l, k, xs, e1, e2, h1, h2, h3, z, q⟩ => ⟨l, k, xs, e1, e2, h1, h2, h3, Evl.sz_of z, fun _ hp => q.at hp⟩
def rListF : List V → Hp → VK → Prop := fun xs H Q => ∃ p ys, xs = [.ref p] ∧ seqAt H p = some ys ∧ New H (.lst ys) fun l H1 => Q (.ref l) H1
theorem call_listF : CallR X (.type "list") rListF := Call_of call_list_of fun xs H Q ⟨p, ys, e, h, q⟩ => ⟨p, ys, e, seqAt_sq h, fun _ hl => q.at hl⟩
def rTupleF : List V → Hp → VK → Prop := fun xs H Q => ∃ p ys, xs = [.ref p] ∧ lstAt H p = some ys ∧ New H (.tup ys) fun l H1 => Q (.ref l) H1
theorem call_tupleF : CallR X (.type "tuple") rTupleF := Call_of call_tuple_of fun xs H Q ⟨p, ys, e, h, q⟩ => ⟨p, ys, e, .inl ⟨lstAt_sq h, fun _ hl => q.at hl⟩⟩
def rLenF : List V → Hp → VK → Prop := fun xs H Q => ∃ p ys, xs = [.ref p] ∧ seqAt H p = some ys ∧ Q (.int ys.length) H
theorem call_lenF : CallR X (.builtin "len") rLenF := Call_of call_len_seq fun xs H Q ⟨p, ys, e, h, q⟩ => ⟨p, ys, e, seqAt_sq h, q⟩
def rAppF : V → List V → Hp → VK → Prop := fun x vs H Q => ∃ l xs v, x = .ref l ∧ vs = [v] ∧ H l = some (.lst xs) ∧ xs.length < 100000 ∧ Put H l (.lst (xs ++ [v])) fun H1 => Q .non H1
theorem mt_appF : MtR X "list.append" rAppF := Mt_of mt_append fun x vs H Q ⟨l, xs, v, e1, e2, h, z, q⟩ => ⟨l, xs, v, e1, e2, h, Evl.sz_lt z, q.at⟩
/-- list[i] = v -/
def rSetF : V → V → V → Hp → (Hp → Prop) → Prop := fun o i v H Q => ∃ p xs k j, o = .ref p ∧ i = .int k ∧ H p = some (.lst xs) ∧ ixN xs.length k = some j ∧ Put H p (.lst (xs.set j v)) Q
theorem set_listF : PSet X rSetF := fun pins s σ H o i v ov iv u Q I ro ri rv ⟨p, xs, k, j, e1, e2, h, hj, q⟩ => set_list pins s σ H o i v ov iv u Q I ro ri rv ⟨p, xs, k, j, e1, e2, h, hj, q.at⟩
def rPopF : V → List V → Hp → VK → Prop := fun x vs H Q => ∃ l xs k j y, x = .ref l ∧ vs = [.int k] ∧ H l = some (.lst xs) ∧ k = ((j : Nat) : Int) ∧ j < 1000000 ∧ xs[j]? = some y ∧ Put H l (.lst (xs.eraseIdx j)) fun H1 => Q y H1
theorem mt_popF : MtR X "list.pop" rPopF := Mt_of mt_popAt fun x vs H Q ⟨l, xs, k, j, y, e1, e2, h, ek, hb, hy, q⟩ =>
  ⟨l, xs, k, j, y, e1, e2, h, by omega, by omega, by rw [ek]; exact (ixN_seq (Evl.ixN_nat (List.getElem?_eq_some_iff.mp hy).1)).1, hy, q.at⟩
/-- sorted(d), d a dict of texts -/
def rSortedF : List V → Hp → VK → Prop := fun xs H Q => ∃ (a : Addr) (kvs : List (Key × V)) (ks : List Str), xs = [.ref a] ∧ H a = some (.dK kvs) ∧ kvs.map (·.1) = ks.map Sum.inr ∧ ks.length < 64 ∧ ∀ ys, ys.Perm ks → sortedS ys = true → New H (.lst (ys.map V.str)) fun p H1 => Q (.ref p) H1
theorem call_sortedF (hc : X.calm = true) : CallR X (.builtin "sorted") rSortedF := Call_of (call_sortedD hc) fun xs H Q ⟨a, kvs, ks, e, h, h2, h3, q⟩ => ⟨a, kvs, ks, e, .inl h, h2, h3, fun ys p p1 p2 hp => (q ys p1 p2).at hp⟩
def rInF (neg : Bool) : R2 := fun x y H Q => ∃ p xs, y = .ref p ∧ seqAt H p = some xs ∧ flatV x = true ∧ xs.all flatV = true ∧ Q (.bl (if neg then !inV x xs else inV x xs)) H
theorem op_inF : OpR X (compareOp .In) (rInF false) := Op_of op_in_seq fun x y H Q ⟨p, xs, e, h, h1, h2, q⟩ => ⟨p, xs, e, seqAt_sq h, h1, h2, q⟩
theorem op_niF : OpR X (compareOp .NotIn) (rInF true) := Op_of op_notIn_seq fun x y H Q ⟨p, xs, e, h, h1, h2, q⟩ => ⟨p, xs, e, seqAt_sq h, h1, h2, q⟩
def rSlF : V → Option Int → Option Int → Hp → VK → Prop := fun x lo hi H Q => ∃ a xs, x = .ref a ∧ lstAt H a = some xs ∧ New H (.lst (cutV xs lo hi)) fun p H1 => Q (.ref p) H1
theorem sl_F : SlR X rSlF := fun pins s σ H x v vl vu lo hi sl Q I rx hs pl pu ⟨a, xs, e, h, q⟩ => sl_list pins s σ H x v vl vu lo hi sl Q I rx hs pl pu ⟨a, xs, e, lstAt_sq h, fun _ hp => q.at hp⟩
end

/-- x.m(e, ..), x a name that holds a list -/
def tMv (i : Nat) (r : V → List V → Hp → VK → Prop) (t : TA) : TE := fun σ H Q => ∃ p xs, σ[i]? = some (some (.ref p)) ∧ lstAt H p = some xs ∧ t σ H fun vs H2 => r (.ref p) vs H2 Q
theorem pe_mv {X : Cx} (i : Nat) {x name : Str} {pos apos cpos : Pos} {e : Expr} {es : List Expr} {t : TA} {id : String} {r : V → List V → Hp → VK → Prop} (slot : Slot "list" name id) (hty : typeOf (.builtin id) = pure (.type "method_descriptor")) (hm : MtR X id r) (ho : PE X (.Name x pos) (tVar i)) (ha : PA X (e :: es) t)
    (hbase : attributeBase (.Name x pos) name X.env (eval (.Name x pos) X.env) = eval (.Name x pos) X.env := by rfl)
    (hfew : ((backTo cpos (starEach (e :: es) X.env)).all (fun x => !x.1) && (backToKw cpos (keywordEach [] X.env)).all (fun x => x.1.isSome)
      && decide ((e :: es).length + ([] : List Keyword).length + (if ([] : List Keyword).isEmpty then 0 else 1) < 30)) = true := by rfl)
    (hline : (apos.endLine == cpos.line) = true := by rfl) (hs : starEach (e :: es) X.env = (false, eval e X.env) :: starEach es X.env := by rfl)
    (hpl : (backTo cpos (starEach es X.env)).any (·.1) = false := by rfl) : PE X (.Call (.Attribute (.Name x pos) name apos) (e :: es) [] cpos) (tMv i r t) := by
  refine PE_of (pe_bm PySem.F.plainAttrs_list slot hty hm ho ha hbase hfew hline hs hpl) fun σ H Q q => ?_
  obtain ⟨p, xs, h1, h2, q⟩ := q
  exact ⟨_, h1, .inl ⟨rfl, _, lstAt_sq h2⟩, q⟩
theorem gName_ap {i : Nat} {v : V} {σ : L2.St} {H : Hp} {Q : L2.St → Hp → Prop} : gName i v σ H Q = Q (σ.set i (some v)) H := rfl
theorem at0 {α : Type} {x : α} {xs : List α} : atI (x :: xs) 0 = some x := atI_nat (j := 0) rfl
theorem tCB_ap {r : List V → Hp → VK → Prop} {t : TA} {σ : L2.St} {H : Hp} {Q : VK} : tCB r t σ H Q = t σ H fun vs H1 => r vs H1 Q := rfl
theorem tCons_ap {te : TE} {t : TA} {σ : L2.St} {H : Hp} {Q : List V → Hp → Prop} : tCons te t σ H Q = te σ H fun x H1 => t σ H1 fun xs H2 => Q (x :: xs) H2 := rfl
theorem sFld_ap {K : PySem.W.Frag} {ta tv : TE} {f : Str} {D : Ends} {σ : L2.St} {H : Hp} : sFld K ta tv f D σ H = tv σ H fun y H1 => ta σ H1 fun x H2 => ∃ a C dx fs, x = .ref a ∧ H2 a = some (.ins C dx fs) ∧ Cls K C ∧ NoAttr K C f ∧ fs.length < 1000 ∧ D.nx σ (upd H2 a (.ins C dx (putF f y fs))) := rfl
theorem tNext_ap {n : L2.St → Hp → Prop} {r : VK} {b c : L2.St → Hp → Prop} {σ : L2.St} {H : Hp} : tNext { nx := n, rt := r, bk := b, ct := c } σ H = n σ H := rfl
theorem tSeq_ap {t u : TS} {D : Ends} {σ : L2.St} {H : Hp} : tSeq t u D σ H = t { D with nx := u D } σ H := rfl
theorem tAsg_ap {te : TE} {g : TG} {D : Ends} {σ : L2.St} {H : Hp} : tAsg te g D σ H = te σ H fun x H1 => g x σ H1 D.nx := rfl
theorem tDrop_ap {te : TE} {D : Ends} {σ : L2.St} {H : Hp} : tDrop te D σ H = te σ H fun _ H1 => D.nx σ H1 := rfl
theorem tRet_ap {te : TE} {D : Ends} {σ : L2.St} {H : Hp} : tRet te D σ H = te σ H D.rt := rfl
/-! ### loops and comprehensions, their heaps in the same form -/
section
variable {K : PySem.W.Frag} {σ : L2.St} {H : Hp} {te : TE} {tt : TT} {tu : TS} {D : Ends} {Q : VK}
/-- for x in range(n) -/
theorem s_rng {tn : TE} {n : Nat} {j : Nat} (hv : ∀ Q : VK, Q (.int (n : Int)) H → tn σ H Q) (hn : n ≤ 1000000) (Pv : Nat → L2.St → Hp → Prop) (h0 : Pv 0 σ H)
    (hs : ∀ (i : Nat) σ' H', i < n → Pv i σ' H' → tu { D with nx := Pv (i + 1), ct := Pv (i + 1), bk := D.nx } (σ'.set j (some (.int (i : Int)))) H') (hd : ∀ σ' H', Pv n σ' H' → D.nx σ' H') : tFor (iRng1 (tCons tn tNil)) (gName j) tu D σ H := by
  refine hv _ ?_
  refine ⟨_, rfl, by omega, by omega, for_range (lo := 0) (n := (n : Int).toNat) Pv h0 (fun i σ' H' hi p => ?_) (fun σ' H' p => hd σ' H' (by rw [Int.toNat_natCast] at p; exact p))⟩
  show tu _ (σ'.set j (some (.int ((0 : Int) + (i : Int))))) H'
  rw [Int.zero_add]
  exact hs i σ' H' (by omega) p
/-- what a comprehension keeps while it grows the list at D0: S may change -/
def Grow (S : Addr → Prop) (H : Hp) (D0 : Addr) (Pv : Nat → List V → Hp → Prop) (i : Nat) (H1 : Hp) : Prop := ∃ acc, H1 D0 = some (.lst acc) ∧ acc.length ≤ i ∧ Kp S H H1 ∧ Pv i acc H1
theorem Grow.start {S : Addr → Prop} {D0 : Addr} {Pv : Nat → List V → Hp → Prop} (hD : H D0 = none) (h0 : Pv 0 [] H) (stab : ∀ i acc H1 a o, H a = none → Pv i acc H1 → Pv i acc (upd H1 a o)) : Grow S H D0 Pv 0 (upd H D0 (.lst [])) :=
  ⟨[], upd_same, Nat.le_refl _, Kp.new hD, stab _ _ _ _ _ hD h0⟩
theorem Grow.more {S : Addr → Prop} {D0 : Addr} {Pv : Nat → List V → Hp → Prop} {i : Nat} {acc : List V} {y : V} {H1 H2 : Hp} (hD : H D0 = none) (hS : ∀ a, S a → H a ≠ none) (stab : ∀ i acc H1 a o, H a = none → Pv i acc H1 → Pv i acc (upd H1 a o))
    (h1 : H1 D0 = some (.lst acc)) (hl : acc.length ≤ i) (hk : Kp S H H1) (k : Kp S H1 H2) (p : Pv (i + 1) (acc ++ [y]) H2) (hi : i < 90000) : ∃ acc, H2 D0 = some (.lst acc) ∧ acc.length < sizeLine ∧ Grow S H D0 Pv (i + 1) (upd H2 D0 (.lst (acc ++ [y]))) := by
  have nS : ¬ S D0 := fun z => hS _ z hD
  exact ⟨acc, k _ _ nS h1, Evl.sz_lt (by omega), acc ++ [y], upd_same, by rw [List.length_append, List.length_singleton]; omega, (hk.trans k).mut hD, stab _ _ _ _ _ hD p⟩
/-- [e for x in range(n)] -/
theorem v_rng {tn : TE} {n : Nat} {j : Nat} {vs : List Nat} (hv : ∀ Q : VK, Q (.int (n : Int)) H → tn σ H Q) (hn : n ≤ 80000) (S : Addr → Prop) (Pv : Nat → List V → Hp → Prop) (h0 : Pv 0 [] H) (hS : ∀ a, S a → H a ≠ none)
    (stab : ∀ i acc H1 a o, H a = none → Pv i acc H1 → Pv i acc (upd H1 a o)) (hw : ∀ x, wipe ((wipe σ vs).set j (some x)) vs = wipe σ vs)
    (step : ∀ (i : Nat) acc H1, i < n → Kp S H H1 → Pv i acc H1 → ∀ Q' : VK, (∀ y H2, Kp S H1 H2 → Pv (i + 1) (acc ++ [y]) H2 → Q' y H2) → te ((wipe σ vs).set j (some (.int (i : Int)))) H1 Q')
    (done : ∀ acc p H1, H p = none → Kp S H H1 → H1 p = some (.lst acc) → Pv n acc H1 → Q (.ref p) H1) : tLc (iRng1 (tCons tn tNil)) (gName j) tYes te vs σ H Q := by
  refine hv _ ?_
  refine ⟨_, rfl, by omega, by omega, fun D0 hD => lc_range (lo := 0) (n := (n : Int).toNat) (Grow S H D0 Pv) (Grow.start hD h0 stab) (fun i H' hi p => ?_) (fun H' p => ?_)⟩
  · obtain ⟨acc, h1, hl, hk, p⟩ := p
    show wipe ((wipe σ vs).set j (some (.int ((0 : Int) + (i : Int))))) vs = wipe σ vs ∧ tYes ((wipe σ vs).set j (some (.int ((0 : Int) + (i : Int))))) H' fun b H3 => if b = true then te ((wipe σ vs).set j (some (.int ((0 : Int) + (i : Int))))) H3 fun y H4 => ∃ acc, H4 D0 = some (.lst acc) ∧ acc.length < sizeLine ∧ Grow S H D0 Pv (i + 1) (upd H4 D0 (.lst (acc ++ [y]))) else Grow S H D0 Pv (i + 1) H3
    rw [Int.zero_add]
    refine ⟨hw _, ?_⟩
    show te _ H' _
    exact step i acc H' (by omega) hk p _ fun y H2 k p2 => Grow.more hD hS stab h1 hl hk k p2 (by omega)
  · obtain ⟨acc, h1, hl, hk, p⟩ := p
    rw [Int.toNat_natCast] at p
    exact done acc D0 H' hD hk h1 p
/-- [e for x in xs if t], xs a list that stands still: by its items -/
theorem v_lst {tl : TE} {a : Addr} {xs : List V} {j : Nat} {vs : List Nat} (hv : ∀ Q : VK, Q (.ref a) H → tl σ H Q) (hx : lstAt H a = some xs) (hn : xs.length ≤ 80000) (S : Addr → Prop) (Pv : Nat → List V → Hp → Prop) (h0 : Pv 0 [] H) (hS : ∀ b, S b → H b ≠ none) (hSa : ¬ S a)
    (stab : ∀ i acc H1 b o, H b = none → Pv i acc H1 → Pv i acc (upd H1 b o)) (hw : ∀ x, wipe ((wipe σ vs).set j (some x)) vs = wipe σ vs)
    (step : ∀ (i : Nat) x acc H1, xs[i]? = some x → Kp S H H1 → Pv i acc H1 → ∀ Q' : Bool → Hp → Prop, (∀ H2, Kp S H1 H2 → Pv (i + 1) acc H2 → Q' false H2) →
      (∀ H2, Kp S H1 H2 → (∀ Q'' : VK, (∀ y H3, Kp S H2 H3 → Pv (i + 1) (acc ++ [y]) H3 → Q'' y H3) → te ((wipe σ vs).set j (some x)) H2 Q'') → Q' true H2) → tt ((wipe σ vs).set j (some x)) H1 Q')
    (done : ∀ acc p H1, H p = none → Kp S H H1 → H1 p = some (.lst acc) → Pv xs.length acc H1 → Q (.ref p) H1) : tLc (iList K tl) (gName j) tt te vs σ H Q := by
  refine hv _ ?_
  have keep : ∀ H1, Kp S H H1 → lstAt H1 a = some xs := fun H1 k => by
    unfold lstAt at hx ⊢
    cases q : H a with
    | none => rw [q] at hx; cases hx
    | some o => rw [k a o hSa q]; rw [q] at hx; exact hx
  refine ⟨_, rfl, ⟨xs, lstAt_sq hx⟩, fun D0 hD => lc_list (xs := xs) (Grow S H D0 Pv) (Grow.start hD h0 stab) (fun i H' _ p => ?_) (fun i x H' hi p => ?_) (fun H' p => ?_)⟩
  · obtain ⟨_, _, _, hk, _⟩ := p
    exact lstAt_sq (keep _ hk)
  · obtain ⟨acc, h1, hl, hk, p⟩ := p
    have hi2 : i < xs.length := (List.getElem?_eq_some_iff.mp hi).1
    refine ⟨hw _, ?_⟩
    have nS : ¬ S D0 := fun z => hS _ z hD
    refine step i x acc H' hi hk p _ (fun H2 k p2 => ?_) (fun H2 k f => ?_)
    · show (if false = true then _ else Grow S H D0 Pv (i + 1) H2)
      rw [if_neg Bool.false_ne_true]
      exact ⟨acc, k _ _ nS h1, by omega, hk.trans k, p2⟩
    · show (if true = true then _ else _)
      rw [if_pos rfl]
      exact f _ fun y H3 k3 p3 => Grow.more hD hS stab (k _ _ nS h1) hl (hk.trans k) k3 p3 (by omega)
  · obtain ⟨acc, h1, hl, hk, p⟩ := p
    exact done acc D0 H' hD hk h1 p
/-- the same over a list made on the way -/
theorem v_new {tl : TE} {xs : List V} {j : Nat} {vs : List Nat} (hv : ∀ R : VK, (∀ a H1, H a = none → Evl.Ex H H1 → lstAt H1 a = some xs → R (.ref a) H1) → tl σ H R) (hn : xs.length ≤ 80000) (S : Addr → Prop) (Pv : Nat → List V → Hp → Prop) (h0 : ∀ H1, Evl.Ex H H1 → Pv 0 [] H1) (hS : ∀ b, S b → H b ≠ none)
    (stab : ∀ i acc H1 b o, H b = none → Pv i acc H1 → Pv i acc (upd H1 b o)) (hw : ∀ x, wipe ((wipe σ vs).set j (some x)) vs = wipe σ vs)
    (step : ∀ (i : Nat) x acc H1, xs[i]? = some x → Kp S H H1 → Pv i acc H1 → ∀ Q' : Bool → Hp → Prop, (∀ H2, Kp S H1 H2 → Pv (i + 1) acc H2 → Q' false H2) →
      (∀ H2, Kp S H1 H2 → (∀ Q'' : VK, (∀ y H3, Kp S H2 H3 → Pv (i + 1) (acc ++ [y]) H3 → Q'' y H3) → te ((wipe σ vs).set j (some x)) H2 Q'') → Q' true H2) → tt ((wipe σ vs).set j (some x)) H1 Q')
    (done : ∀ acc p H1, H p = none → Kp S H H1 → H1 p = some (.lst acc) → Pv xs.length acc H1 → Q (.ref p) H1) : tLc (iList K tl) (gName j) tt te vs σ H Q := by
  refine hv _ fun a H0 ha e0 hx => ?_
  have nSa : ¬ S a := fun z => hS _ z ha
  exact v_lst (K := K) (tl := tC (.ref a)) (Q := Q) (H := H0) (fun _ q => q) hx hn S Pv (h0 _ e0) (fun b z n => hS b z (Evl.fresh_back e0 n)) nSa (fun i acc H1 b o hb p => stab i acc H1 b o (Evl.fresh_back e0 hb) p) hw
    (fun i x acc H1 hi k p => step i x acc H1 hi ((Kp.of_ex e0).trans k) p) (fun acc p H1 hp k h1 q => done acc p H1 (Evl.fresh_back e0 hp) ((Kp.of_ex e0).trans k) h1 q)
/-- for x in xs, a list that stands still -/
theorem s_lst {tl : TE} {a : Addr} {xs : List V} {j : Nat} (hv : ∀ Q : VK, Q (.ref a) H → tl σ H Q) (hx : lstAt H a = some xs) (Pv : Nat → L2.St → Hp → Prop) (h0 : Pv 0 σ H) (keep : ∀ i σ' H', Pv i σ' H' → lstAt H' a = some xs)
    (hs : ∀ (i : Nat) x σ' H', xs[i]? = some x → Pv i σ' H' → tu { D with nx := Pv (i + 1), ct := Pv (i + 1), bk := D.nx } (σ'.set j (some x)) H') (hd : ∀ σ' H', Pv xs.length σ' H' → D.nx σ' H') : tFor (iList K tl) (gName j) tu D σ H := by
  refine hv _ ⟨a, rfl, ⟨xs, lstAt_sq hx⟩, for_list (xs := xs) Pv h0 (fun i σ' H' _ p => lstAt_sq (keep i σ' H' p)) (fun i x σ' H' hi p => hs i x σ' H' hi p) hd⟩
/-- .. a list made on the way -/
theorem s_new {tl : TE} {xs : List V} {j : Nat} (hv : ∀ R : VK, (∀ a H1, H a = none → Evl.Ex H H1 → H1 a = some (.lst xs) → R (.ref a) H1) → tl σ H R) (Pv : Addr → Nat → L2.St → Hp → Prop) (h0 : ∀ a H1, H a = none → Evl.Ex H H1 → H1 a = some (.lst xs) → Pv a 0 σ H1) (keep : ∀ a i σ' H', Pv a i σ' H' → lstAt H' a = some xs)
    (hs : ∀ a (i : Nat) x σ' H', xs[i]? = some x → Pv a i σ' H' → tu { D with nx := Pv a (i + 1), ct := Pv a (i + 1), bk := D.nx } (σ'.set j (some x)) H') (hd : ∀ a σ' H', Pv a xs.length σ' H' → D.nx σ' H') : tFor (iList K tl) (gName j) tu D σ H := by
  refine hv _ fun a H1 ha e h1 => ⟨a, rfl, ⟨xs, lstAt_sq (lstAt_of h1)⟩, for_list (xs := xs) (Pv a) (h0 a H1 ha e h1) (fun i σ' H' _ p => lstAt_sq (keep a i σ' H' p)) (fun i x σ' H' hi p => hs a i x σ' H' hi p) (hd a)⟩
/-- for i, x in enumerate(xs) -/
theorem s_enum {tl : TE} {a : Addr} {xs : List V} {j1 j2 : Nat} (hv : ∀ Q : VK, Q (.ref a) H → tl σ H Q) (hx : lstAt H a = some xs) (Pv : Nat → L2.St → Hp → Prop) (h0 : Pv 0 σ H) (keep : ∀ i σ' H', Pv i σ' H' → lstAt H' a = some xs)
    (hs : ∀ (i : Nat) x σ' H' H2, xs[i]? = some x → Pv i σ' H' → Evl.Ex H' H2 → tu { D with nx := Pv (i + 1), ct := Pv (i + 1), bk := D.nx } ((σ'.set j1 (some (.int (i : Int)))).set j2 (some x)) H2) (hd : ∀ σ' H', Pv xs.length σ' H' → D.nx σ' H') :
    tFor (iEnum K (tCons tl tNil)) (gTup K 2 (gCons (gName j1) (gCons (gName j2) gNil))) tu D σ H := by
  refine hv _ ⟨a, xs, rfl, lstAt_sq hx, fun i m σ H => m = xs.length - i ∧ i ≤ xs.length ∧ Pv i σ H, ⟨xs.length, rfl, Nat.zero_le _, h0⟩, ?_⟩
  rintro i m σ' H' ⟨rfl, hi, p⟩
  have still := keep i σ' H' p
  by_cases c : i < xs.length
  · refine .inr ⟨⟨xs, xs[i], lstAt_sq still, by simp [c]⟩, Pv (i + 1), fun σ2 H2 p2 => ⟨xs.length - (i + 1), by omega, rfl, c, p2⟩, fun v H2 y => ?_⟩
    obtain ⟨T, x, rfl, hT, rfl, hxi⟩ := y
    have ei := hxi xs (lstAt_sq still)
    exact ⟨T, _, rfl, SqT.of upd_same, rfl, _, _, rfl, _, _, rfl, rfl, hs i x σ' H' _ ei p (Evl.Ex.new hT)⟩
  · have e : i = xs.length := by omega
    subst e
    exact .inl ⟨⟨xs, lstAt_sq still, Nat.le_refl _⟩, hd σ' H' p⟩
/-- [e for c in text if t], sign by sign -/
theorem v_str {tl : TE} {z : Str} {j : Nat} {vs : List Nat} (hv : ∀ Q : VK, Q (.str z) H → tl σ H Q) (hn : z.length ≤ 80000) (S : Addr → Prop) (Pv : Nat → List V → Hp → Prop) (h0 : Pv 0 [] H) (hS : ∀ b, S b → H b ≠ none)
    (stab : ∀ i acc H1 b o, H b = none → Pv i acc H1 → Pv i acc (upd H1 b o)) (hw : ∀ x, wipe ((wipe σ vs).set j (some x)) vs = wipe σ vs)
    (step : ∀ (i c : Nat) acc H1, z.cps.toList[i]? = some c → Kp S H H1 → Pv i acc H1 → ∀ Q' : Bool → Hp → Prop, (∀ H2, Kp S H1 H2 → Pv (i + 1) acc H2 → Q' false H2) →
      (∀ H2, Kp S H1 H2 → (∀ Q'' : VK, (∀ y H3, Kp S H2 H3 → Pv (i + 1) (acc ++ [y]) H3 → Q'' y H3) → te ((wipe σ vs).set j (some (.str ⟨#[c]⟩))) H2 Q'') → Q' true H2) → tt ((wipe σ vs).set j (some (.str ⟨#[c]⟩))) H1 Q')
    (done : ∀ acc p H1, H p = none → Kp S H H1 → H1 p = some (.lst acc) → Pv z.length acc H1 → Q (.ref p) H1) : tLc (iStr tl) (gName j) tt te vs σ H Q := by
  refine hv _ ⟨z, rfl, fun D0 hD => ⟨fun i m H1 => m = z.cps.size - i ∧ i ≤ z.cps.size ∧ Grow S H D0 Pv i H1, ⟨z.cps.size, rfl, Nat.zero_le _, Grow.start hD h0 stab⟩, ?_⟩⟩
  rintro i m H1 ⟨rfl, hi, acc, h1, hl, hk, p⟩
  have nS : ¬ S D0 := fun y => hS _ y hD
  have hn2 : z.cps.size ≤ 80000 := hn
  by_cases c : i < z.cps.size
  · refine .inr ⟨c, Grow S H D0 Pv (i + 1), fun H2 p2 => ⟨z.cps.size - (i + 1), by omega, rfl, c, p2⟩, fun v H2 y => ?_⟩
    obtain ⟨rfl, d, hd, rfl⟩ := y
    refine ⟨hw _, ?_⟩
    refine step i d acc H2 (by rw [Array.getElem?_toList]; exact hd) hk p _ (fun H3 k p2 => ?_) (fun H3 k f => ?_)
    · show (if false = true then _ else Grow S H D0 Pv (i + 1) H3)
      rw [if_neg Bool.false_ne_true]
      exact ⟨acc, k _ _ nS h1, by omega, hk.trans k, p2⟩
    · show (if true = true then _ else _)
      rw [if_pos rfl]
      exact f _ fun y H4 k3 p3 => Grow.more hD hS stab (k _ _ nS h1) hl (hk.trans k) k3 p3 (by omega)
  · have e : i = z.cps.size := by omega
    subst e
    exact .inl ⟨Nat.le_refl _, done acc D0 H1 hD hk h1 p⟩
/-- for x in e: whatever list e gives -/
theorem s_any {tl : TE} {j : Nat} (Pv : Addr → List V → Nat → L2.St → Hp → Prop) (hv : ∀ R : VK, (∀ a xs H1, lstAt H1 a = some xs → Pv a xs 0 σ H1 → R (.ref a) H1) → tl σ H R) (keep : ∀ a xs i σ' H', Pv a xs i σ' H' → lstAt H' a = some xs)
    (hs : ∀ a xs (i : Nat) x σ' H', xs[i]? = some x → Pv a xs i σ' H' → tu { D with nx := Pv a xs (i + 1), ct := Pv a xs (i + 1), bk := D.nx } (σ'.set j (some x)) H') (hd : ∀ a xs σ' H', Pv a xs xs.length σ' H' → D.nx σ' H') : tFor (iList K tl) (gName j) tu D σ H := by
  refine hv _ fun a xs H1 h1 p0 => ⟨a, rfl, ⟨xs, lstAt_sq h1⟩, for_list (xs := xs) (Pv a xs) p0 (fun i σ' H' _ p => lstAt_sq (keep a xs i σ' H' p)) (fun i x σ' H' hi p => hs a xs i x σ' H' hi p) (hd a xs)⟩
/-- for k in d, a dict of texts or numbers that is locked meanwhile -/
theorem s_keys (S : Addr → Prop) {td : TE} {d : Addr} {kvs : List (Key × V)} {j : Nat} (hv : ∀ H1 (Q : VK), Q (.ref d) H1 → td σ H1 Q) (hd : H d = some (.dK kvs)) (Pv : Nat → L2.St → Hp → Prop) (h0 : ∀ od, Pv 0 σ (upd H d (.frz od (.dK kvs))))
    (hs : ∀ od (i : Nat) k v σ' H', kvs[i]? = some (k, v) → Kp (fun a => a = d ∨ S a) H H' → H' d = some (.frz od (.dK kvs)) → Pv i σ' H' → ∀ N : L2.St → Hp → Prop, (∀ σ2 H2, Kp (fun a => a = d ∨ S a) H' H2 → H2 d = some (.frz od (.dK kvs)) → Pv (i + 1) σ2 H2 → N σ2 H2) →
      ∀ D' : Ends, D'.nx = N → tu D' (σ'.set j (some (kV k))) H')
    (hx : ∀ od σ' H', Kp (fun a => a = d ∨ S a) H H' → H' d = some (.frz od (.dK kvs)) → Pv kvs.length σ' H' → D.nx σ' (upd H' d (.dK kvs))) : tLock (tFor (iKeys td) (gName j) tu) D σ H := by
  refine ⟨d, _, hd, trivial, fun od => hv _ _ ⟨d, od, rfl, .inl ⟨kvs, upd_same, fun i m σ' H' => m = kvs.length - i ∧ i ≤ kvs.length ∧ Kp (fun a => a = d ∨ S a) H H' ∧ H' d = some (.frz od (.dK kvs)) ∧ Pv i σ' H', ⟨kvs.length, rfl, Nat.zero_le _, Kp.at (.inl rfl), upd_same, h0 od⟩, ?_⟩⟩⟩
  rintro i m σ' H' ⟨rfl, hi, hk, hf, p⟩
  by_cases c : i < kvs.length
  · refine .inr ⟨⟨hf, c⟩, fun σ2 H2 => Kp (fun a => a = d ∨ S a) H H2 ∧ H2 d = some (.frz od (.dK kvs)) ∧ Pv (i + 1) σ2 H2, fun σ2 H2 p2 => ⟨kvs.length - (i + 1), by omega, rfl, c, p2⟩, fun x H2 y => ?_⟩
    obtain ⟨rfl, k, v, e, rfl⟩ := y
    exact hs od i k v σ' H2 e hk hf p _ (fun σ2 H3 k2 f2 p2 => ⟨hk.trans k2, f2, p2⟩) _ rfl
  · have e : i = kvs.length := by omega
    subst e
    exact .inl ⟨⟨hf, Nat.le_refl _⟩, hf, hx od σ' H' hk hf p⟩
/-- .. let go again, the dict is as it was; S: things that were not there at all -/
theorem Kp.unlock {S : Addr → Prop} {d : Addr} {kvs : List (Key × V)} {H0 H' : Hp} (e0 : Evl.Ex H H0) (hd : H d = some (.dK kvs)) (k : Kp (fun a => a = d ∨ S a) H0 H') (hS : ∀ a, S a → H a = none) : Evl.Ex H (upd H' d (.dK kvs)) := fun a o e => by
  by_cases c : a = d
  · rw [c, upd_same, ← hd, ← e, c]
  · rw [upd_ne c]
    exact k a o (fun y => y.elim c fun z => by rw [hS a z] at e; cases e) (e0 _ _ e)
/-- the growing list is known by its address -/
def Grow2 (S : Addr → Prop) (H : Hp) (D0 : Addr) (Pv : Addr → Nat → List V → Hp → Prop) (i : Nat) (H1 : Hp) : Prop := ∃ acc, H1 D0 = some (.lst acc) ∧ acc.length ≤ i ∧ Kp S H H1 ∧ Pv D0 i acc H1
abbrev Stab (H : Hp) (Pv : Addr → Nat → List V → Hp → Prop) : Prop := ∀ D0 i acc H1 xs ys, H D0 = none → H1 D0 = some (.lst xs) → Pv D0 i acc H1 → Pv D0 i acc (upd H1 D0 (.lst ys))
theorem Grow2.start {S : Addr → Prop} {D0 : Addr} {Pv : Addr → Nat → List V → Hp → Prop} (hD : H D0 = none) (h0 : ∀ D1 H1, H D1 = none → Evl.Ex H H1 → H1 D1 = some (.lst []) → Pv D1 0 [] H1) : Grow2 S H D0 Pv 0 (upd H D0 (.lst [])) :=
  ⟨[], upd_same, Nat.le_refl _, Kp.new hD, h0 _ _ hD (Evl.Ex.new hD) upd_same⟩
theorem Grow2.more {S : Addr → Prop} {D0 : Addr} {Pv : Addr → Nat → List V → Hp → Prop} {i : Nat} {acc : List V} {y : V} {H1 H2 : Hp} (hD : H D0 = none) (hS : ∀ a, S a → H a ≠ none) (stab : Stab H Pv)
    (h1 : H1 D0 = some (.lst acc)) (hl : acc.length ≤ i) (hk : Kp S H H1) (k : Kp S H1 H2) (p : Pv D0 (i + 1) (acc ++ [y]) H2) (hi : i < 90000) : ∃ acc, H2 D0 = some (.lst acc) ∧ acc.length < sizeLine ∧ Grow2 S H D0 Pv (i + 1) (upd H2 D0 (.lst (acc ++ [y]))) := by
  have nS : ¬ S D0 := fun z => hS _ z hD
  have h2 := k _ _ nS h1
  exact ⟨acc, h2, Evl.sz_lt (by omega), acc ++ [y], upd_same, by rw [List.length_append, List.length_singleton]; omega, (hk.trans k).mut hD, stab _ _ _ _ _ _ hD h2 p⟩
theorem w_rng {tn : TE} {n : Nat} {j : Nat} {vs : List Nat} (hv : ∀ Q : VK, Q (.int (n : Int)) H → tn σ H Q) (hn : n ≤ 80000) (S : Addr → Prop) (Pv : Addr → Nat → List V → Hp → Prop) (h0 : ∀ D1 H1, H D1 = none → Evl.Ex H H1 → H1 D1 = some (.lst []) → Pv D1 0 [] H1) (hS : ∀ a, S a → H a ≠ none)
    (stab : Stab H Pv) (hw : ∀ x, wipe ((wipe σ vs).set j (some x)) vs = wipe σ vs)
    (step : ∀ D0 (i : Nat) acc H1, i < n → H D0 = none → H1 D0 = some (.lst acc) → Kp S H H1 → Pv D0 i acc H1 → ∀ Q' : Bool → Hp → Prop, (∀ H2, Kp S H1 H2 → Pv D0 (i + 1) acc H2 → Q' false H2) →
      (∀ H2, Kp S H1 H2 → (∀ Q'' : VK, (∀ y H3, Kp S H2 H3 → Pv D0 (i + 1) (acc ++ [y]) H3 → Q'' y H3) → te ((wipe σ vs).set j (some (.int (i : Int)))) H2 Q'') → Q' true H2) → tt ((wipe σ vs).set j (some (.int (i : Int)))) H1 Q')
    (done : ∀ acc p H1, H p = none → Kp S H H1 → H1 p = some (.lst acc) → Pv p n acc H1 → Q (.ref p) H1) : tLc (iRng1 (tCons tn tNil)) (gName j) tt te vs σ H Q := by
  refine hv _ ⟨_, rfl, by omega, by omega, fun D0 hD => lc_range (lo := 0) (n := (n : Int).toNat) (Grow2 S H D0 Pv) (Grow2.start hD h0) (fun i H' hi p => ?_) (fun H' p => ?_)⟩
  · obtain ⟨acc, h1, hl, hk, p⟩ := p
    have nS : ¬ S D0 := fun z => hS _ z hD
    show wipe ((wipe σ vs).set j (some (.int ((0 : Int) + (i : Int))))) vs = wipe σ vs ∧ tt ((wipe σ vs).set j (some (.int ((0 : Int) + (i : Int))))) H' fun b H3 => if b = true then te ((wipe σ vs).set j (some (.int ((0 : Int) + (i : Int))))) H3 fun y H4 => ∃ acc, H4 D0 = some (.lst acc) ∧ acc.length < sizeLine ∧ Grow2 S H D0 Pv (i + 1) (upd H4 D0 (.lst (acc ++ [y]))) else Grow2 S H D0 Pv (i + 1) H3
    rw [Int.zero_add]
    refine ⟨hw _, step D0 i acc H' (by omega) hD h1 hk p _ (fun H2 k p2 => ?_) (fun H2 k f => ?_)⟩
    · rw [if_neg Bool.false_ne_true]
      exact ⟨acc, k _ _ nS h1, by omega, hk.trans k, p2⟩
    · rw [if_pos rfl]
      exact f _ fun y H3 k3 p3 => Grow2.more hD hS stab (k _ _ nS h1) hl (hk.trans k) k3 p3 (by omega)
  · obtain ⟨acc, h1, hl, hk, p⟩ := p
    rw [Int.toNat_natCast] at p
    exact done acc D0 H' hD hk h1 p
theorem w_lst {tl : TE} {a : Addr} {xs : List V} {j : Nat} {vs : List Nat} (hv : ∀ Q : VK, Q (.ref a) H → tl σ H Q) (hx : lstAt H a = some xs) (hn : xs.length ≤ 80000) (S : Addr → Prop) (Pv : Addr → Nat → List V → Hp → Prop) (h0 : ∀ D1 H1, H D1 = none → Evl.Ex H H1 → H1 D1 = some (.lst []) → Pv D1 0 [] H1) (hS : ∀ b, S b → H b ≠ none) (hSa : ¬ S a)
    (stab : Stab H Pv) (hw : ∀ x, wipe ((wipe σ vs).set j (some x)) vs = wipe σ vs)
    (step : ∀ D0 (i : Nat) x acc H1, xs[i]? = some x → H D0 = none → H1 D0 = some (.lst acc) → Kp S H H1 → Pv D0 i acc H1 → ∀ Q' : Bool → Hp → Prop, (∀ H2, Kp S H1 H2 → Pv D0 (i + 1) acc H2 → Q' false H2) →
      (∀ H2, Kp S H1 H2 → (∀ Q'' : VK, (∀ y H3, Kp S H2 H3 → Pv D0 (i + 1) (acc ++ [y]) H3 → Q'' y H3) → te ((wipe σ vs).set j (some x)) H2 Q'') → Q' true H2) → tt ((wipe σ vs).set j (some x)) H1 Q')
    (done : ∀ acc p H1, H p = none → Kp S H H1 → H1 p = some (.lst acc) → Pv p xs.length acc H1 → Q (.ref p) H1) : tLc (iList K tl) (gName j) tt te vs σ H Q := by
  have keep : ∀ H1, Kp S H H1 → lstAt H1 a = some xs := fun H1 k => by
    unfold lstAt at hx ⊢
    cases q : H a with
    | none => rw [q] at hx; cases hx
    | some o => rw [k a o hSa q]; rw [q] at hx; exact hx
  refine hv _ ⟨_, rfl, ⟨xs, lstAt_sq hx⟩, fun D0 hD => lc_list (xs := xs) (Grow2 S H D0 Pv) (Grow2.start hD h0) (fun i H' _ p => ?_) (fun i x H' hi p => ?_) (fun H' p => ?_)⟩
  · obtain ⟨_, _, _, hk, _⟩ := p
    exact lstAt_sq (keep _ hk)
  · obtain ⟨acc, h1, hl, hk, p⟩ := p
    have hi2 : i < xs.length := (List.getElem?_eq_some_iff.mp hi).1
    have nS : ¬ S D0 := fun z => hS _ z hD
    refine ⟨hw _, step D0 i x acc H' hi hD h1 hk p _ (fun H2 k p2 => ?_) (fun H2 k f => ?_)⟩
    · rw [if_neg Bool.false_ne_true]
      exact ⟨acc, k _ _ nS h1, by omega, hk.trans k, p2⟩
    · rw [if_pos rfl]
      exact f _ fun y H3 k3 p3 => Grow2.more hD hS stab (k _ _ nS h1) hl (hk.trans k) k3 p3 (by omega)
  · obtain ⟨acc, h1, hl, hk, p⟩ := p
    exact done acc D0 H' hD hk h1 p
end
end L3

namespace L3
open PySem PySem.Spec PyProof.Rows L2

/-! ### several clauses «except C as n» with one name -/
/-- the ends of a suite whose name is let go behind it -/
def goneD (i : Nat) (D : Ends) : Ends := { nx := fun σ' H' => D.nx (σ'.set i none) H', rt := D.rt, bk := fun σ' H' => D.bk (σ'.set i none) H', ct := fun σ' H' => D.ct (σ'.set i none) H' }
abbrev Cls3 := List (Value × (Addr → Value → Option Addr → TS))
def wManyAs (K : PySem.W.Frag) (i : Nat) (Wo : WX) (D : Ends) : Cls3 → WX
  | [] => Wo
  | (c, ts) :: r => fun cl dd σ H => ∃ b, PySem.W.exmOne K cl c = some b ∧ (b = true → ∀ a, H a = none → ts a cl dd (goneD i D) (σ.set i (some (.ref a))) H) ∧ (b = false → wManyAs K i Wo D r cl dd σ H)
inductive HdsAs (X : Cx) (n : Str) : List ExceptHandler → Cls3 → Prop
  | nil : HdsAs X n [] []
  | cons {x : Str} {c : Value} {ts : Addr → Value → Option Addr → TS} {st : Stmt} {su : List Stmt} {p1 p2 : Pos} {hs : List ExceptHandler} {l : Cls3} (nm : Names X x c)
      (body : ∀ (a : Addr) (ob : Obj) (cl : Value) (dd : Option Addr) (pn : List (Addr × Obj)), Zc cl dd ob → (∃ vs, ob.data = .fields vs) → PSs (X.suite a ((a, ob) :: pn)) (st :: su) (ts a cl dd)) (rest : HdsAs X n hs l) :
      HdsAs X n (.ExceptHandler (some (.Name x p1)) (some n) (st :: su) p2 :: hs) ((c, ts) :: l)
section
variable {X : Cx} {n : Str} {i : Nat} {bd : List Stmt} {hd0 : ExceptHandler} {hs : List ExceptHandler} {l : Cls3} {pos : Pos} {tb : WX → TS} {Wo : WX}
theorem ps_try_mas (stk : X.stack = X.env :: X.outer) (frm : X.env.frame = some X.env.locals) (hN : X.N.Nodup) (hi : X.N[i]? = some n) (loc : X.env.kindOf n = some .local) (out : Takes X Wo)
    (hb : ∀ (W : WX) (pn : List (Addr × Obj)) (xe : Value → Shared → Prop), Takes (X.tr pn xe) W → PassesOwn (model X.prog X.w) X.A X.env xe → PSs (X.tr pn xe) bd (tb W))
    (hh : HdsAs X n (hd0 :: hs) l) : PS X (.Try bd (hd0 :: hs) [] [] pos) (fun D σ H => tb (wManyAs X.K i Wo D l) D σ H) := by
  constructor
  intro pins s σ H D J0 want
  have good := J0.ok
  have frames : X.A.frames = some (X.env :: X.outer) := good.frames.trans (congrArg some stk)
  have isLoc : Loc X.env.scope n := .inl loc
  refine wpAny_Try_except (wpAny_mono ((hb (wManyAs X.K i Wo D l) (X.pn ++ pins) (fun e s1 => wpAny (model X.prog X.w) X.A (noteFrame e X.env) (fun _ s2 => wpAny (model X.prog X.w) X.A (setFlight e none)
    (fun _ s3 => wpAny (model X.prog X.w) X.A (handleBy e X.env (hd0 :: hs)) (SP X pins D) X.xe s3) X.xe s2) X.xe s1) ?caught PassesOwn.looking).run [] s σ H D (J0.toTry _) want) ?through fun _ _ z => z)
  case caught =>
    intro u s' air
    obtain ⟨a, B, sI, pins', σ', H', cl, dd, rfl, J', nob, ups, sky, fresh, sameOs, bare, wish⟩ := air
    have J : Inv X pins σ' H' sI := J'.ofTry good
    have sky2 : Sky B (X.env :: X.outer) a (Zc cl dd) X.env.locals s'.heap := stk ▸ sky
    show wpAny (model X.prog X.w) X.A (noteFrame (.ref a) X.env) _ _ _
    refine Sky.land Zc.steady frames frm sky2 fun g fl ups3 => ?_
    have J3 : Inv X pins σ' H' { s' with heap := g } := J.landed nob fl.1 (ups.trans ups3) sameOs bare
    obtain ⟨ob, flds, at3, zc3, dt3⟩ := fl.there
    have offFrames : ∀ {h : Heap} {o : Obj} {vs : Array Value}, h.FunFrames B (X.env :: X.outer) → h.get? a = some o → o.data = .fields vs → a ∉ frs (X.env :: X.outer) := by
      intro h o vs ff eo od mem
      obtain ⟨_, o2, eo2, nf⟩ := ff.mem mem
      rw [eo] at eo2
      cases eo2
      exact nf _ od
    have off := offFrames fl.2.2.1 at3 dt3
    have offL : a ≠ X.env.locals := fun z => off (List.mem_filterMap.mpr ⟨X.env, List.mem_cons_self, by rw [frm, z]⟩)
    have offF : a ∉ X.fs := by
      intro mem
      obtain ⟨ev, me, q⟩ := List.mem_filterMap.mp mem
      exact off (List.mem_filterMap.mpr ⟨ev, List.mem_cons_of_mem _ me, q⟩)
    have S3 := J3.suite at3 dt3 fresh offL offF
    have walk : ∀ {hs2 : List ExceptHandler} {l2 : Cls3}, HdsAs X n hs2 l2 → wManyAs X.K i Wo D l2 cl dd σ' H' → wpAny (model X.prog X.w) X.A (handleBy (.ref a) X.env hs2) (SP X pins D) X.xe { s' with heap := g } := by
      intro hs2 l2 hk
      induction hk with
      | nil =>
        intro wi
        refine wpAny_handleBy_nil ?_
        obtain ⟨_, _, _, ob2, vs2, T2, oT2, ts2, e1, _, e3, e4, _⟩ := id fl
        unfold PySem.passOn
        refine wpAny_bind (wpAny_field e1 e3 e4 ?_)
        rw [if_neg (show ¬ ((Value.ref T2 == Value.none) = true) by simp)]
        have last : wpAny (model X.prog X.w) X.A (setFlight (.ref a) X.env.frame) (fun _ s4 => wpAny (model X.prog X.w) X.A (throw (.ref a) : Sem Flow) (SP X pins D) X.xe s4) X.xe { s' with heap := g } := by
          rw [frm]
          refine HandSPX.setFlight_upZ fl fun g4 held ups4 => wpAny_throw (out _ _ ⟨a, B, sI, pins, σ', H', cl, dd, rfl, J, nob, (ups.trans ups3).trans ups4, .inr (.inr ?_), fresh, sameOs, bare, wi⟩)
          rw [stk]
          exact held
        first
          | exact wpAny_bind (wpAny_pure (wpAny_bind last))
          | exact wpAny_bind last
      | @cons x c ts st su p1 p2 hs3 l3 nm body rest ih =>
        intro wi
        obtain ⟨b, is, yes, no⟩ := wi
        refine wpAny_handleBy_cons (codeAny_handlers_test ?_) (fun z => by cases z)
        have ty : PySem.W.Looks (model X.prog X.w) g (typeOf (.ref a)) cl := fun A Q E s1 k q => wpAny_typeOf_ref (k _ _ at3) (by rw [zc3.1]; exact q)
        have fits := PySem.W.exm_one (M := model X.prog X.w) (J3.kIn) ty is
        have name : ∀ {Q : Value → Shared → Prop} {E : Value → Shared → Prop}, Q c { s' with heap := g } → wpAny (model X.prog X.w) (X.A.mark (some (.ref a))) (eval (.Name x p1) X.env) Q E { s' with heap := g } := by
          intro Q E q
          obtain ⟨gl, db, at1 | ⟨at1, bt, nn⟩⟩ := nm
          · exact ld_glob (X := X.suite a ((a, ob) :: (X.pn ++ pins))) S3 gl at1 q db
          · exact ld_blt (X := X.suite a ((a, ob) :: (X.pn ++ pins))) S3 gl at1 bt q nn db
        refine name (fits.here ?_)
        cases b with
        | false =>
          show wpAny _ X.A (handleBy (.ref a) X.env hs3) _ _ _
          exact ih (no rfl)
        | true =>
          refine codeAny_handlers_suite_as (HandSPX.lands_againZ fl fun g4 fl4 ups4 => ?_)
          have J4 : Inv X pins σ' H' { s' with heap := g4 } := J.landed nob fl4.1 ((ups.trans ups3).trans ups4) sameOs bare
          obtain ⟨ob4, fl4s, at4, zc4, dt4⟩ := fl4.there
          have S4 := J4.suite at4 dt4 fresh offL offF
          refine store_ok (X := X.suite a ((a, ob4) :: (X.pn ++ pins))) (v := .ref a) S4 hN hi isLoc rfl (fun s5 S5 => ?_) (.inr loc)
          refine wpAny_mono ((body a ob4 cl dd (X.pn ++ pins) zc4 ⟨_, dt4⟩).run [] s5 _ H' _ S5 (yes rfl a fresh)) (fun fl6 s6 got => ?_) (fun _ _ z => False.elim z)
          have bye : ∀ {σ6 : L2.St} {H6 : Hp} {Q : Shared → Prop}, Inv (X.suite a ((a, ob4) :: (X.pn ++ pins))) [] σ6 H6 s6 → (∀ s7, Inv X pins (σ6.set i none) H6 s7 → Q s7) →
              wpAny (model X.prog X.w) X.A (do bindName X.env n .none; unbindBehindTheSuite X.env n p2) (fun _ s7 => Q s7) X.xe s6 := fun S6 q => gone_ok (S6.unsuite good) hN hi loc q
          cases fl6 with
          | ret v =>
            obtain ⟨v6, σ6, H6, S6, r6, q6⟩ := got
            exact bye S6 fun s7 J7 => ⟨_, _, _, J7, r6, q6⟩
          | next =>
            obtain ⟨σ6, H6, S6, q6⟩ := got
            exact bye S6 fun s7 J7 => ⟨_, _, J7, q6⟩
          | brk =>
            obtain ⟨σ6, H6, S6, q6⟩ := got
            exact bye S6 fun s7 J7 => ⟨_, _, J7, q6⟩
          | cont =>
            obtain ⟨σ6, H6, S6, q6⟩ := got
            exact bye S6 fun s7 J7 => ⟨_, _, J7, q6⟩
    exact walk hh wish
  case through =>
    intro fl s1 got
    cases fl with
    | ret v =>
      obtain ⟨v1, σ1, H1, J1, r1, q1⟩ := got
      exact ⟨v1, σ1, H1, J1.ofTry good, r1, q1⟩
    | next =>
      obtain ⟨σ1, H1, J1, q1⟩ := got
      exact wpAny_execs_nil ⟨σ1, H1, J1.ofTry good, q1⟩
    | brk =>
      obtain ⟨σ1, H1, J1, q1⟩ := got
      exact ⟨σ1, H1, J1.ofTry good, q1⟩
    | cont =>
      obtain ⟨σ1, H1, J1, q1⟩ := got
      exact ⟨σ1, H1, J1.ofTry good, q1⟩
end

/-! ### C(..) within a try -/
section
variable {X : Cx} {CX : CXT} {k : Nat} {f C : Addr} {fd : FuncData} {ps : List Str} {sp : Sp} {E : L2.St → XK} {x : Str} {p pos : Pos} {e : Expr} {es : List Expr} {t : TA}
def tMakeT (C : Addr) (sp : Sp) (E : L2.St → XK) (t : TA) : TE := fun σ H Q => t σ H fun vs H1 => ∀ x dx, H1 x = none → H1 dx = none → dx ≠ x → sp (.ref x :: vs) (upd (upd H1 dx (.own x)) x (.ins C dx [])) (fun v H2 => v = .non ∧ Q (.ref x) H2) (E σ)
theorem pe_makeT (M : Mk X.K C f) (F : FnOk X.prog X.w X.K X.mg X.base CX k f fd ps sp) (hr : Room (k + 1) X.A) (hg : Gl X x) (hm : X.mg x = some (.ref C)) (hb : Binds X.K fd ps []) (hx : ∀ σ, PassesAt CX X σ (E σ))
    (ha : PA X (e :: es) t) (hdb : (x == ("__debug__" : Str)) = false := by decide) (he : starEach (e :: es) X.env = (false, eval e X.env) :: starEach es X.env := by rfl) (hpl : (backTo pos (starEach es X.env)).any (·.1) = false := by rfl) :
    PE X (.Call (.Name x p) (e :: es) [] pos) (tMakeT C sp E t) := by
  constructor
  intro pins s σ H Q J want
  refine wpAny_Call_Name_kw (ld_glob J hg hm (PySem.W.callWith_K (h₀ := X.base) J.ok.mod.kin M.kp (thn (ha.run pos pins s σ H _ J want) fun us s1 ⟨vs, H1, J1, rel, q⟩ => ⟨J1.kIn, ?_⟩) he hpl) hdb)
  have n1 : H1 (s1.heap.objs.size + 1) = none := J1.hok.fresh (Nat.le_succ _)
  have n0 : H1 s1.heap.objs.size = none := J1.hok.fresh (Nat.le_refl _)
  have asked := q _ _ n1 n0 (Nat.ne_of_lt (Nat.lt_succ_self _))
  have J2 := Inv.made (C := C) J1
  have rel2 : Vals (V.ref (s1.heap.objs.size + 1) :: vs) (Value.ref (s1.heap.objs.size + 1) :: us) := .cons rfl rel
  have many : (Value.ref (s1.heap.objs.size + 1) :: us).length = ps.length := rel2.length.symm.trans (F.len _ _ _ _ asked)
  have bnd := hb { s1 with heap := (s1.heap.push PySem.W.emptyDict).push (PySem.W.instObj C s1.heap.objs.size) } (Value.ref (s1.heap.objs.size + 1) :: us) J2.kIn (by rw [List.append_nil]; exact many)
  rw [List.append_nil] at bnd
  refine wpAny_call (make_map (f := f) J1.kIn M.makes M.init (beq_iff_eq.mp M.fn) (codeAny_mono (F.run _ X.stack _ _ ⟨Value.ref (s1.heap.objs.size + 1) :: us, []⟩ (Value.ref (s1.heap.objs.size + 1) :: us) _ _ (E σ) (hr.make C us [])
    (J2.env0.make C us []) bnd rel2 asked) fun r s' got => ?_))
  cases r with
  | error er => exact hx σ pins _ _ er s' J2 got
  | ok fl =>
    cases fl with
    | ret u =>
      obtain ⟨v, H', J3, rv, ev, q3⟩ := J2.after got
      subst ev
      exact ⟨rv, ⟨V.ref (s1.heap.objs.size + 1), H', J3, rfl, q3⟩⟩
    | next => exact got.elim
    | brk => exact got.elim
    | cont => exact got.elim
end

/-! ### the errors of the program: each stores one value -/
/-- what the written part says of such a class -/
structure ErrC (K : PySem.W.Frag) (mg : Str → Option Value) (x : Str) (C fI : Addr) : Prop where
  g : mg x = some (.ref C)
  ox : OexC K C
  ini : PySem.W.findIn K (.ref C) "__init__" = some (some (.ref fI))
  ty : PySem.W.typeIn K (.ref fI) = some (.type "function")
  no : PySem.W.findIn K (.ref C) "value" = some none
  xf : XfC K C
/-- __init__(self, value): self.value = value -/
def spErrI (K : PySem.W.Frag) : Sp := fun vs H Q _ => ∃ (a C : Addr) (v : V), vs = [.ref a, v] ∧ OexC K C ∧ PySem.W.findIn K (.ref C) "value" = some none ∧ H a = some (exo a C none) ∧
  ∀ dx, H dx = none → dx ≠ a → Q .non (upd (upd H dx (exd dx [("value", v)])) a (exo a C (some dx)))
theorem pmk_err {X : Cx} {x : Str} {C fI : Addr} {k : Nat} {fd : FuncData} {e : Expr} {p pos : Pos} {te : TE} (T : ErrC X.K X.mg x C fI) (F : FnOk X.prog X.w X.K X.mg X.base CX0 k fI fd ["self", "value"] (spErrI X.K)) (hr : Room (k + 1) X.A) (hb : Binds X.K fd ["self", "value"] [])
    (hg : Gl X x) (he : PE X e te) (hdb : (x == ("__debug__" : Str)) = false := by decide) (hs : starEach [e] X.env = (false, eval e X.env) :: starEach [] X.env := by rfl) (hpl : (backTo pos (starEach [] X.env)).any (·.1) = false := by rfl) :
    PMk X (.Call (.Name x p) [e] [] pos) (tMkO C (spErrI X.K) [] (tCons te tNil)) := pmk_oex (es := []) T.ox T.ini T.ty F hr hb .nil pass0 hg T.g (pa_cons he pa_nil hs) hdb hs hpl
/-- behind the value: the error is made, at d its dict -/
theorem err_done {K : PySem.W.Frag} {mg : Str → Option Value} {x : Str} {C fI : Addr} {v : V} {H1 : Hp} {Q : XK} (T : ErrC K mg x C fI) (q : ∀ d H2, H1 d = none → Evl.Ex H1 H2 → H2 d = some (.xd [("value", v)]) → Q (.ref C) (some d) H2) :
    [v].length ≤ 1000 ∧ ∀ a, H1 a = none → spErrI K (.ref a :: ([v] ++ [])) (upd H1 a (exo a C none))
      (fun v H2 => v = .non ∧ ∃ (d : Addr) (fs : List (Str × V)), H2 a = some (exo a C (some d)) ∧ H2 d = some (exd d fs) ∧ H1 d = none ∧ Q (.ref C) (some d) (upd (del H2 a) d (.xd fs))) (fun _ _ _ => False) := by
  refine ⟨Nat.le_of_ble_eq_true rfl, fun a ha => ⟨a, C, v, rfl, T.ox, T.no, upd_same, fun dx hdx ne => ⟨rfl, dx, [("value", v)], upd_same, ?_, ?_, ?_⟩⟩⟩
  · rw [upd_ne ne, upd_same]
  · rwa [upd_ne ne] at hdx
  · rw [upd_ne ne] at hdx
    refine q dx _ hdx (fun b o e => ?_) upd_same
    have nb : b ≠ dx := ne_of_none e hdx
    have na : b ≠ a := ne_of_none e ha
    rw [upd_ne nb, del_ne na, upd_ne na, upd_ne nb, upd_ne na]
    exact e
/-- the class that stores it, with its __init__ -/
structure Er (P : Program) (w : World) (K : PySem.W.Frag) (mg : Str → Option Value) (base : Heap) (x : Str) (C : Addr) : Prop where
  ex : ∃ fI fd, ErrC K mg x C fI ∧ FnOk P w K mg base CX0 1 fI fd ["self", "value"] (spErrI K) ∧ Binds K fd ["self", "value"] []
/-- raise C(e) in a def that may raise -/
theorem ps_err {X : Cx} {W : WX} {x : Str} {C : Addr} {e : Expr} {p pos pos2 : Pos} {te : TE} (R : Er X.prog X.w X.K X.mg X.base x C) (hc : X.calm = true) (tk : Takes X W) (hr : Room 2 X.A) (hg : Gl X x) (he : PE X e te) (hdb : (x == ("__debug__" : Str)) = false := by decide)
    (hs : starEach [e] X.env = (false, eval e X.env) :: starEach [] X.env := by rfl) (hpl : (backTo pos (starEach [] X.env)).any (·.1) = false := by rfl) :
    PS X (.Raise (some (.Call (.Name x p) [e] [] pos)) none pos2) (fun _ σ H => tMkO C (spErrI X.K) [] (tCons te tNil) σ H fun cls d H' => W cls d σ H') := by
  obtain ⟨fI, fd, T, F, hb⟩ := R.ex
  exact ps_raise hc tk (pmk_err T F hr hb hg he hdb hs hpl)
theorem er_done {P : Program} {w : World} {K : PySem.W.Frag} {mg : Str → Option Value} {base : Heap} {x : Str} {C : Addr} {v : V} {H1 : Hp} {Q : XK} (R : Er P w K mg base x C) (q : ∀ d H2, H1 d = none → Evl.Ex H1 H2 → H2 d = some (.xd [("value", v)]) → Q (.ref C) (some d) H2) :
    [v].length ≤ 1000 ∧ ∀ a, H1 a = none → spErrI K (.ref a :: ([v] ++ [])) (upd H1 a (exo a C none))
      (fun v H2 => v = .non ∧ ∃ (d : Addr) (fs : List (Str × V)), H2 a = some (exo a C (some d)) ∧ H2 d = some (exd d fs) ∧ H1 d = none ∧ Q (.ref C) (some d) (upd (del H2 a) d (.xd fs))) (fun _ _ _ => False) := by
  obtain ⟨fI, fd, T, F, hb⟩ := R.ex
  exact err_done T q
/-! ### a def of the module that may raise -/
structure Dx (P : Program) (w : World) (K : PySem.W.Frag) (mg : Str → Option Value) (base : Heap) (x : Str) (k : Nat) (ps : List Str) (sp : Sp) : Prop where
  ex : ∃ f fd, mg x = some (.ref f) ∧ PySem.W.keepIn K (.ref f) = true ∧ FnOk P w K mg base (L2.CX P w) k f fd ps sp ∧ Binds K fd ps []
theorem pe_dx {X : Cx} {x : Str} {k : Nat} {ps : List Str} {sp : Sp} {p pos : Pos} {e : Expr} {es : List Expr} {t : TA} {W : WX} (D : Dx X.prog X.w X.K X.mg X.base x k ps sp) (tk : Takes X W) (hr : Room k X.A) (hg : Gl X x)
    (ha : PA X (e :: es) t) (hdb : (x == ("__debug__" : Str)) = false := by decide) (he : starEach (e :: es) X.env = (false, eval e X.env) :: starEach es X.env := by rfl) (hpl : (backTo pos (starEach es X.env)).any (·.1) = false := by rfl) :
    PE X (.Call (.Name x p) (e :: es) [] pos) (tCallS sp (WE W) t) := by
  obtain ⟨f, fd, hm, hk, F, hb⟩ := D.ex
  exact pe_callS F hr hg hm hk hb (fun σ => passAt tk σ) ha hdb he hpl
end L3

namespace L3
open PySem PySem.Spec PyProof.Rows L2
/-! ### a property of an own class -/
structure Pr (P : Program) (w : World) (K : PySem.W.Frag) (mg : Str → Option Value) (base : Heap) (C : Addr) (f : Str) (k : Nat) (sp : Sp) : Prop where
  ex : ∃ p g fd, PropOf K C f p g ∧ FnOk P w K mg base CX0 k g fd ["self"] sp ∧ Binds K fd ["self"] []
theorem pe_pr {X : Cx} {C : Addr} {f : Str} {k : Nat} {sp : Sp} {pos : Pos} {e : Expr} {ta : TE} (D : Pr X.prog X.w X.K X.mg X.base C f k sp) (c : Cls X.K C) (hr : Room (k + 1) X.A) (he : PE X e ta)
    (hab : attributeBase e f X.env (eval e X.env) = eval e X.env := by rfl) : PE X (.Attribute e f pos) (tProp C sp [] E0 ta) := by
  obtain ⟨p, g, fd, hp, F, hb⟩ := D.ex
  exact pe_prop he c hp F hr hb .nil pass0 hab
/-! ### C(..) of an own class whose __init__ may raise -/
structure Mkx (P : Program) (w : World) (K : PySem.W.Frag) (mg : Str → Option Value) (base : Heap) (x : Str) (C : Addr) (k : Nat) (ps : List Str) (sp : Sp) : Prop where
  ex : ∃ f fd, Mk K C f ∧ mg x = some (.ref C) ∧ FnOk P w K mg base (L2.CX P w) k f fd ps sp ∧ Binds K fd ps []
theorem pe_mkx {X : Cx} {x : Str} {C : Addr} {k : Nat} {ps : List Str} {sp : Sp} {p pos : Pos} {e : Expr} {es : List Expr} {t : TA} {W : WX} (D : Mkx X.prog X.w X.K X.mg X.base x C k ps sp) (tk : Takes X W) (hr : Room (k + 1) X.A) (hg : Gl X x)
    (ha : PA X (e :: es) t) (hdb : (x == ("__debug__" : Str)) = false := by decide) (he : starEach (e :: es) X.env = (false, eval e X.env) :: starEach es X.env := by rfl) (hpl : (backTo pos (starEach es X.env)).any (·.1) = false := by rfl) :
    PE X (.Call (.Name x p) (e :: es) [] pos) (tMakeT C sp (WE W) t) := by
  obtain ⟨f, fd, M, hm, F, hb⟩ := D.ex
  exact pe_makeT M F hr hg hm hb (fun σ => passAt tk σ) ha hdb he hpl
/-! ### isinstance of the built-in types -/
def tyN (H : Hp) : V → Option String
  | .non => some "NoneType"
  | .bl _ => some "bool"
  | .int _ => some "int"
  | .str _ => some "str"
  | .ref a => match H a with
    | some (.lst _) => some "list"
    | some (.frz _ (.lst _)) => some "list"
    | some (.tup _) => some "tuple"
    | some (.dK _) => some "dict"
    | _ => none
  | _ => none
theorem tyN_ok {K : PySem.W.Frag} {H : Hp} {x : V} {t : String} (h : tyN H x = some t) : TyX K H x (.type t) := by
  unfold tyN at h
  split at h
  · cases h; exact .base .non
  · cases h; exact .base (.bl _)
  · cases h; exact .base (.int _)
  · cases h; exact .base (.str _)
  · split at h
    · rename_i e; cases h; exact .base (.lst e)
    · rename_i e; cases h; exact .base (.frz e)
    · rename_i e; cases h; exact .base (.tup e)
    · rename_i e; cases h; exact .base (.dK e)
    · cases h
  · cases h
def rIsN : List V → Hp → VK → Prop := fun xs H Q => ∃ (x : V) (n t : String) (b : Bool), xs = [x, .ty n] ∧ tyN H x = some t ∧ kitB t n = some b ∧ Q (.bl b) H
theorem call_isN {X : Cx} : CallR X (.builtin "isinstance") rIsN := Call_of call_isi fun xs H Q ⟨x, n, t, b, e, h, k, q⟩ => ⟨x, .ty n, .type t, .type n, b, e, .ty n, tyN_ok h, kit_ty k, q⟩
def rInsF : V → List V → Hp → VK → Prop := fun x vs H Q => ∃ (l : Addr) (xs : List V) (i : Nat) (y : V), x = .ref l ∧ vs = [.int i, y] ∧ H l = some (.lst xs) ∧ xs.length < 100000 ∧ i ≤ 100000 ∧ Put H l (.lst (xs.take i ++ [y] ++ xs.drop i)) fun H1 => Q .non H1
theorem mt_insF {X : Cx} : MtR X "list.insert" rInsF := Mt_of mt_insert fun x vs H Q ⟨l, xs, i, y, e1, e2, h, z, hi, q⟩ => ⟨l, xs, i, y, e1, e2, h, Evl.sz_lt z, Int.natCast_nonneg i, by omega, q.at⟩
/-! ### lists of texts, compared -/
def Asc (z : Str) : Prop := ∀ c ∈ z.cps.toList, c < 128
theorem Asc.ok {z : Str} (h : Asc z) : PySem.PyData.strOk z = true := by
  unfold PySem.PyData.strOk
  rw [← Array.all_toList, List.all_eq_true]
  intro c hc
  have := h c hc
  exact decide_eq_true (by omega)
theorem dp_strs {K : PySem.W.Frag} {H : Hp} : ∀ ss : List Str, DpAll K H (ss.map V.str) (ss.map PyData.str)
  | [] => .nil
  | s :: ss => .cons (.str s) (dp_strs ss)
theorem dp_lst {K : PySem.W.Frag} {H : Hp} {a : Addr} {ss : List Str} (h : lstAt H a = some (ss.map V.str)) : Dp K H (.ref a) (.list (ss.map PyData.str)) := .lst (lstAt_sq h) (dp_strs ss)
theorem lay_strs : ∀ {ss : List Str}, (∀ s ∈ ss, Asc s) → PyData.canLayAll0 (ss.map PyData.str) = true
  | [], _ => by simp [PyData.canLayAll0]
  | s :: ss, h => by
    rw [List.map_cons, PyData.canLayAll0, lay_strs (ss := ss) fun x hx => h x (List.mem_cons_of_mem _ hx), PyData.canLay0, (h s List.mem_cons_self).ok]
    rfl
theorem dep_strs : ∀ ss : List Str, PyData.depthAll (ss.map PyData.str) = 0
  | [] => by simp [PyData.depthAll]
  | s :: ss => by rw [List.map_cons, PyData.depthAll, dep_strs ss, PyData.depth]; rfl
theorem shp_strs {ss : List Str} (h : ∀ s ∈ ss, Asc s) : SeqAt.shaped (.list (ss.map PyData.str)) = true := by
  unfold SeqAt.shaped
  rw [PyData.canLay0, lay_strs h, PyData.depth, dep_strs]
  rfl
def rNeN : R2 := fun x y H Q => ∃ (p q : Addr) (ss : List Str), x = .ref p ∧ y = .ref q ∧ lstAt H p = some (ss.map V.str) ∧ H q = some (.lst []) ∧ (∀ s ∈ ss, Asc s) ∧ Q (.bl (!ss.isEmpty)) H
theorem op_neN {X : Cx} (hu : X.A.units + 64 < cLine) : OpR X (compareOp .NotEq) rNeN := Op_of (op_neD hu) fun x y H Q ⟨p, q, ss, e1, e2, h1, h2, h3, r⟩ => by
  subst e1
  subst e2
  have h2' : lstAt H q = some (([] : List Str).map V.str) := lstAt_of h2
  refine ⟨_, _, dp_lst h1, dp_lst h2', shp_strs h3, shp_strs (fun _ h => by cases h), ?_⟩
  have e : PyData.eqv (.list (ss.map PyData.str)) (.list (([] : List Str).map PyData.str)) = ss.isEmpty := by
    cases ss with
    | nil => simp [PyData.eqv, PyData.eqvAll]
    | cons s ss => simp [PyData.eqv, PyData.eqvAll]
  rw [e]
  exact r
/-- two lists of two lists of texts: the same -/
def rNe2 : R2 := fun x y H Q => ∃ (p q a b c d : Addr) (ss ts : List Str), x = .ref p ∧ y = .ref q ∧ H p = some (.lst [.ref a, .ref b]) ∧ H q = some (.lst [.ref c, .ref d]) ∧ lstAt H a = some (ss.map V.str) ∧ lstAt H b = some (ts.map V.str) ∧ lstAt H c = some (ss.map V.str) ∧ lstAt H d = some (ts.map V.str) ∧
  (∀ s ∈ ss, Asc s) ∧ (∀ s ∈ ts, Asc s) ∧ Q (.bl false) H
theorem op_ne2 {X : Cx} (hu : X.A.units + 64 < cLine) : OpR X (compareOp .NotEq) rNe2 := Op_of (op_neD hu) fun x y H Q ⟨p, q, a, b, c, d, ss, ts, e1, e2, hp, hq, ha, hb, hc, hd, s1, s2, r⟩ => by
  subst e1
  subst e2
  have l : PyData.canLay0 (.list [.list (ss.map PyData.str), .list (ts.map PyData.str)]) = true := by
    rw [PyData.canLay0, PyData.canLayAll0, PyData.canLayAll0, PyData.canLayAll0, PyData.canLay0, PyData.canLay0, lay_strs s1, lay_strs s2]
    rfl
  have sh : SeqAt.shaped (.list [.list (ss.map PyData.str), .list (ts.map PyData.str)]) = true := by
    unfold SeqAt.shaped
    rw [l, PyData.depth, PyData.depthAll, PyData.depthAll, PyData.depthAll, PyData.depth, PyData.depth, dep_strs, dep_strs]
    rfl
  refine ⟨_, _, .lst (lstAt_sq (lstAt_of hp)) (.cons (dp_lst ha) (.cons (dp_lst hb) .nil)), .lst (lstAt_sq (lstAt_of hq)) (.cons (dp_lst hc) (.cons (dp_lst hd) .nil)), sh, sh, ?_⟩
  rw [SeqAt.eqv_refl _ l]
  exact r
/-! ### for x in range(n), n drawn -/
section
variable {K : PySem.W.Frag} {σ : L2.St} {H : Hp} {tu : TS} {D : Ends}
theorem s_rngD {tn : TE} {j : Nat} (A : Nat → Hp → Prop) (hv : ∀ R : VK, (∀ (n : Nat) H1, n ≤ 1000000 → A n H1 → R (.int (n : Int)) H1) → tn σ H R) (Pv : Nat → Nat → L2.St → Hp → Prop) (h0 : ∀ n H1, A n H1 → Pv n 0 σ H1)
    (hs : ∀ (n i : Nat) σ' H', i < n → Pv n i σ' H' → tu { D with nx := Pv n (i + 1), ct := Pv n (i + 1), bk := D.nx } (σ'.set j (some (.int (i : Int)))) H') (hd : ∀ n σ' H', Pv n n σ' H' → D.nx σ' H') : tFor (iRng1 (tCons tn tNil)) (gName j) tu D σ H := by
  refine hv _ fun n H1 hn a => ?_
  refine ⟨_, rfl, by omega, by omega, for_range (lo := 0) (n := (n : Int).toNat) (Pv n) (h0 n H1 a) (fun i σ' H' hi p => ?_) (fun σ' H' p => hd n σ' H' (by rw [Int.toNat_natCast] at p; exact p))⟩
  show tu _ (σ'.set j (some (.int ((0 : Int) + (i : Int))))) H'
  rw [Int.zero_add]
  exact hs n i σ' H' (by omega) p
end
end L3

local macro_rules | `(tactic| walk_at "ex") => `(tactic| ((try simp only [L3.gName_ap]); (try rw [L3.tNext_ap]); (try rw [L3.tSeq_ap]); (repeat (first | rw [L3.tAsg_ap] | rw [L3.tDrop_ap] | rw [L3.tRet_ap] | rw [L3.sFld_ap] | rw [L3.tCB_ap] | rw [L3.tCons_ap]))))
namespace Toy
open PySem L2 L3
def top (i : Nat) : Stmt := PySem.Challenge.pw_surepresses_k05_names_refused.main.body.getD i (.Pass ⟨0, 0, 0, 0⟩)
section
variable {P : Program} {w : World} {K : PySem.W.Frag} {mg : Str → Option Value} {base : Heap}
/-! _law_cell_at; slots: 0:_law_script 1:_law_k -/
abbrev s__law_cell_at : Stmt := top 21
abbrev N__law_cell_at : List Str := ["_law_script", "_law_k"]
theorem sc__law_cell_at : FnScope N__law_cell_at ["_law_script", "_law_k"] (defScope s__law_cell_at) := ⟨rfl, rfl, rfl, by decide +kernel, rfl, by decide +kernel, by decide +kernel⟩
def spCell (K : PySem.W.Frag) : Sp := fun vs H Q _ => ∃ (a : Addr) (ns : List Int) (k : Nat), vs = [.ref a, .int k] ∧ SqL K H a (ns.map V.int) ∧ (∀ z ∈ ns, z.natAbs < 2 ^ 1100000) ∧ ∀ z : Int, z.natAbs < 2 ^ 1100000 → Q (.int z) H
theorem ok__law_cell_at {f : Addr} {fd : FuncData} (F : Fun K "_law_cell_at" "_law_cell_at" s__law_cell_at f fd) (Z : Bi mg) : FnOk P w K mg base CX0 1 f fd ["_law_script", "_law_k"] (spCell K) := by
  refine F.ok sc__law_cell_at (fun vs H Q E h => ?_) (fun cdv A outer s H vs Q E hr h => ?_)
  · obtain ⟨p, m, n, rfl, _⟩ := h
    rfl
  · obtain ⟨a, ns, k, rfl, hs, hb, q⟩ := h
    refine ⟨_, (pss_cons (ps_if (pt_cmpR op_lt (pv 1) (pe_callB call_len_seq (by rfl) Z.len (by decide +kernel) (pa_cons (pv 0) pa_nil)) (nomark _)) (pss_one (ps_ret (pe_ix ix_list (pv 0) (pv 1) (fun _ _ => rfl)))) pss_nil)
    (pss_one (ps_ret pe_int))), ?_⟩
    refine ⟨_, rfl, _, rfl, _, _, rfl, .inl hs, _, _, rfl, rfl, _, rfl, ?_⟩
    rw [List.length_map]
    refine ite2 (fun c => ?_) (fun _ => ?_)
    · have c2 : k < ns.length := by have := of_decide_eq_true c; omega
      have e : (ns.map V.int)[k]? = some (.int ns[k]) := by simp [c2]
      refine ⟨_, rfl, _, rfl, _, _, _, _, rfl, rfl, hs, atI_nat e, ?_⟩
      exact q _ (hb _ (List.getElem_mem c2))
    · exact q 0 (by decide +kernel)
/-! _law_source; slots: 0:_law_cell 1:_law_k 2:_law_amount -/
abbrev s__law_source : Stmt := top 22
abbrev N__law_source : List Str := ["_law_cell", "_law_k", "_law_amount"]
theorem sc__law_source : FnScope N__law_source ["_law_cell", "_law_k"] (defScope s__law_source) := ⟨rfl, rfl, rfl, by decide +kernel, rfl, by decide +kernel, by decide +kernel⟩
/-- a source of draws: at most n drawn so far -/
def Src (H : Hp) (p : Addr) (n : Int) : Prop := ∃ a b c : Int, H p = some (.lst [.int a, .int b, .int c]) ∧ 0 ≤ a ∧ a.natAbs < 2 ^ 2000000 ∧ b.natAbs < 2 ^ 2000000 ∧ 0 ≤ c ∧ c ≤ n
theorem Src.mono {H : Hp} {p : Addr} {n m : Int} (h : Src H p n) (l : n ≤ m) : Src H p m := by
  obtain ⟨a, b, c, h1, h2, h3, h4, h5, h6⟩ := h
  exact ⟨a, b, c, h1, h2, h3, h4, h5, by omega⟩
theorem Src.keep {H H' : Hp} {p : Addr} {n : Int} (h : Src H p n) (k : ∀ o, H p = some o → H' p = some o) : Src H' p n := by
  obtain ⟨a, b, c, h1, r⟩ := h
  exact ⟨a, b, c, k _ h1, r⟩
def spSource : Sp := fun vs H Q _ => ∃ (z : Int) (k : Nat), vs = [.int z, .int k] ∧ z.natAbs < 2 ^ 1100000 ∧ k ≤ 1000 ∧ ∀ p H', H p = none → Evl.Ex H H' → Src H' p 0 → Q (.ref p) H'
theorem ok__law_source {f : Addr} {fd : FuncData} (F : Fun K "_law_source" "_law_source" s__law_source f fd) (Z : Bi mg) : FnOk P w K mg base CX0 1 f fd ["_law_cell", "_law_k"] spSource := by
  refine F.ok sc__law_source (fun vs H Q E h => ?_) (fun cdv A outer s H vs Q E hr h => ?_)
  · obtain ⟨p, m, rfl, _⟩ := h
    rfl
  · obtain ⟨z, n, rfl, hz, hn, q⟩ := h
    refine ⟨_, (pss_cons (ps_set (i := 2) sc__law_source.nd rfl (Or.inl rfl) (pe_op op_add (pe_op op_mulL pe_int (pe_callB call_abs (by rfl) Z.abs (by decide +kernel) (pa_cons (pv 0) pa_nil))) (pe_callTy call_int1 (by rfl) Z.int (by decide +kernel) (pa_cons (pe_cmpR op_lt (pv 0) pe_int (nomark _)) pa_nil))))
    (pss_cons (ps_if (pt_cmpR op_ge (pv 2) (pe_op op_powL pe_int pe_int) (nomark _)) (pss_one (ps_ret (pe_lstF (pa_cons (pv 2) (pa_cons (pe_op op_add (pv 2) (pe_op op_mulL pe_int (pv 1))) (pa_cons pe_int pa_nil)))))) pss_nil)
    (pss_one (ps_ret (pe_lstF (pa_cons pe_int (pa_cons (pe_op op_add (pv 2) (pe_op op_mulL pe_int (pv 1))) (pa_cons pe_int pa_nil)))))))), ?_⟩
    obtain ⟨u, eu⟩ : ∃ u : Int, u = if z < 0 then -z else z := ⟨_, rfl⟩
    have u0 : 0 ≤ u := by rw [eu]; split <;> omega
    have uB : u.natAbs < 2 ^ 1100000 := by
      have : u.natAbs = z.natAbs := by rw [eu]; split <;> omega
      rw [this]
      exact hz
    refine ⟨_, rfl, _, rfl, ?_⟩
    show ∃ i j : Int, V.int 2 = .int i ∧ V.int (if z < 0 then -z else z) = .int j ∧ _
    rw [← eu]
    refine ⟨_, _, rfl, rfl, ⟨3, 1100000, by decide, uB, by decide⟩, fun d hd => ?_⟩
    have dB : d.natAbs < 2 ^ 1100003 := by
      rw [hd, show (1100003 : Nat) = 3 + 1100000 from rfl]
      exact wide_lt (by decide) uB
    refine ⟨_, rfl, _, _, rfl, rfl, .inr ⟨_, rfl, ?_⟩⟩
    obtain ⟨y, ey⟩ : ∃ y : Int, y = if decide (z < 0) = true then 1 else 0 := ⟨_, rfl⟩
    rw [← ey]
    have y0 : 0 ≤ y := by rw [ey]; split <;> omega
    have yB : y.natAbs < 2 ^ 1100003 := nat_lt (a := 1) (by rw [ey]; split <;> decide) (by decide)
    refine ⟨_, _, rfl, rfl, ?_⟩
    have eB := add_lt (b := 1100004) dB yB (by decide)
    have e0 : 0 ≤ d + y := by omega
    refine ⟨_, rfl, _, _, rfl, rfl, ⟨by decide, by decide, by decide⟩, fun t ht => ⟨_, _, rfl, rfl, _, rfl, ?_⟩⟩
    have nB : (n : Int).natAbs < 2 ^ 20 := by omega
    have gB : ∀ g : Int, g = 7907 * (n : Int) → (d + y + g).natAbs < 2 ^ 2000000 := fun g hg =>
      nat_lt (add_lt (b := 1100005) eB (nat_lt (a := 40) (by rw [hg]; exact wide_lt (a := 20) (b := 20) (by decide) nB) (by decide)) (by decide)) (by decide)
    refine ite2 (fun _ => ?_) (fun _ => ?_)
    · refine ⟨_, rfl, _, rfl, _, rfl, _, _, rfl, rfl, ⟨20, 20, by decide, nB, by decide⟩, fun g hg => ⟨_, _, rfl, rfl, Nat.le_of_ble_eq_true rfl, fun p H1 hp e1 h1 => ?_⟩⟩
      exact q p H1 hp e1 ⟨_, _, _, h1, e0, nat_lt (b := 2000000) eB (by decide), gB g hg, by decide, by decide⟩
    · refine ⟨_, rfl, _, rfl, _, _, rfl, rfl, ⟨20, 20, by decide, nB, by decide⟩, fun g hg => ⟨_, _, rfl, rfl, Nat.le_of_ble_eq_true rfl, fun p H1 hp e1 h1 => ?_⟩⟩
      exact q p H1 hp e1 ⟨_, _, _, h1, by decide, nat_lt (a := 1) (by decide) (by decide), gB g hg, by decide, by decide⟩
/-! _law_draw; slots: 0:_law_source_here 1:_law_limit 2:_law_worth 3:_law_turn 4:_law_number -/
abbrev s__law_draw : Stmt := top 23
abbrev N__law_draw : List Str := ["_law_source_here", "_law_limit", "_law_worth", "_law_turn", "_law_number"]
theorem sc__law_draw : FnScope N__law_draw ["_law_source_here", "_law_limit"] (defScope s__law_draw) := ⟨rfl, rfl, rfl, by decide +kernel, rfl, by decide +kernel, by decide +kernel⟩
def spDraw : Sp := fun vs H Q _ => ∃ (p : Addr) (m n : Int), vs = [.ref p, .int m] ∧ 0 < m ∧ m < 2 ^ 30 ∧ Src H p n ∧ n ≤ 1000000 ∧ ∀ (r : Int) (H' : Hp), 0 ≤ r → r < m → Kp (· = p) H H' → Src H' p (n + 1) → Q (.int r) H'
theorem ok__law_draw {f : Addr} {fd : FuncData} (F : Fun K "_law_draw" "_law_draw" s__law_draw f fd) (Z : Bi mg) : FnOk P w K mg base CX0 1 f fd ["_law_source_here", "_law_limit"] spDraw := by
  refine F.ok sc__law_draw (fun vs H Q E h => ?_) (fun cdv A outer s H vs Q E hr h => ?_)
  · obtain ⟨p, m, n, rfl, _⟩ := h
    rfl
  · obtain ⟨p, m, n, rfl, m0, m1, ⟨a, b, c, hp, a0, aB, bB, c0, cn⟩, hn, k⟩ := h
    refine ⟨_, (pss_cons (ps_if (pt_cmpR op_gt (pe_ix ix_F (pv 0) pe_int (fun _ _ => rfl)) pe_int (nomark _)) (pss_cons (ps_set (i := 2) sc__law_draw.nd rfl (Or.inl rfl) (pe_op op_modL (pe_callTy call_int1 (by rfl) Z.int (by decide +kernel) (pa_cons (pe_ix ix_F (pv 0) pe_int (fun _ _ => rfl)) pa_nil)) (pv 1)))
    (pss_cons (ps_asg (pe_op op_divL (pe_ix ix_F (pv 0) pe_int (fun _ _ => rfl)) (pv 1)) (pg_sub (pv 0) pe_int set_listF))
    (pss_one (ps_ret (pv 2))))) pss_nil)
    (pss_cons (ps_asg (pe_op op_add (pe_ix ix_F (pv 0) pe_int (fun _ _ => rfl)) pe_int) (pg_sub (pv 0) pe_int set_listF))
    (pss_cons (ps_set (i := 3) sc__law_draw.nd rfl (Or.inl rfl) (pe_ix ix_F (pv 0) pe_int (fun _ _ => rfl)))
    (pss_cons (ps_set (i := 4) sc__law_draw.nd rfl (Or.inl rfl) (pe_op op_modL (pe_callTy call_int1 (by rfl) Z.int (by decide +kernel) (pa_cons (pe_op op_mulL (pe_op op_add (pe_op op_add (pe_ix ix_F (pv 0) pe_int (fun _ _ => rfl)) (pe_op op_mulL pe_int (pv 3))) pe_int) (pe_op op_powL pe_int pe_int)) pa_nil)) (pe_op op_add (pe_op op_powL pe_int pe_int) pe_int)))
    (pss_cons (ps_set (i := 4) sc__law_draw.nd rfl (Or.inl rfl) (pe_op op_modL (pe_callTy call_int1 (by rfl) Z.int (by decide +kernel) (pa_cons (pe_op op_add (pe_op op_mulL (pv 4) (pv 4)) (pe_op op_mulL (pe_op op_mulL pe_int (pv 3)) (pv 3))) pa_nil)) (pe_op op_add (pe_op op_powL pe_int pe_int) pe_int)))
    (pss_cons (ps_set (i := 4) sc__law_draw.nd rfl (Or.inl rfl) (pe_op op_modL (pe_callTy call_int1 (by rfl) Z.int (by decide +kernel) (pa_cons (pe_op op_add (pe_op op_mulL (pv 4) (pv 4)) (pv 3)) pa_nil)) (pe_op op_add (pe_op op_powL pe_int pe_int) pe_int)))
    (pss_one (ps_ret (pe_op op_modL (pe_callTy call_int1 (by rfl) Z.int (by decide +kernel) (pa_cons (pe_op op_divL (pv 4) pe_int) pa_nil)) (pv 1)))))))))), ?_⟩
    have sp0 := seqAt_lst hp
    refine ⟨_, rfl, _, _, _, _, rfl, rfl, sp0, rfl, _, _, rfl, rfl, _, rfl, ?_⟩
    refine ite2 (fun _ => ?_) (fun _ => ?_)
    · refine ⟨_, rfl, _, _, _, _, rfl, rfl, sp0, rfl, .inl ⟨_, rfl, _, rfl, _, _, rfl, rfl, m0, fun r _ r0 r1 => ?_⟩⟩
      refine ⟨_, rfl, _, _, _, _, rfl, rfl, sp0, rfl, _, rfl, _, _, rfl, rfl, wide_div (b := 30) m0 (by omega) (by decide) (by decide), fun d de => ?_⟩
      refine ⟨_, rfl, _, _, _, _, rfl, rfl, hp, rfl, fun H1 k1 h1 => ⟨_, rfl, ?_⟩⟩
      have d0 : 0 ≤ d := by rw [de]; exact Int.ediv_nonneg a0 (by omega)
      have d1 : d ≤ a := by rw [de]; exact Int.ediv_le_self m a0
      exact k _ _ r0 r1 k1 ⟨_, _, _, h1, d0, Nat.lt_of_le_of_lt (by omega) aB, bB, c0, by omega⟩
    · refine ⟨_, rfl, _, _, _, _, rfl, rfl, sp0, rfl, _, _, rfl, rfl, ?_⟩
      refine ⟨_, rfl, _, _, _, _, rfl, rfl, hp, rfl, fun H1 k1 hp1 => ?_⟩
      have sp1 := seqAt_lst hp1
      refine ⟨_, rfl, _, _, _, _, rfl, rfl, sp1, rfl, ?_⟩
      have cB : (c + 1).natAbs < 2 ^ 60 := by omega
      refine ⟨_, rfl, _, _, _, _, rfl, rfl, sp1, rfl, _, rfl, _, _, rfl, rfl, ⟨17, 60, by decide, cB, by decide⟩, fun e1 he1 => ?_⟩
      have b1 : e1.natAbs < 2 ^ 77 := by rw [he1]; exact wide_lt (a := 17) (b := 60) (by decide) cB
      refine ⟨_, _, rfl, rfl, _, _, rfl, rfl, _, _, rfl, rfl, ⟨by decide, by decide, by decide⟩, fun e2 he2 => ?_⟩
      have b2 : e2.natAbs < 2 ^ 130 := by rw [he2]; decide +kernel
      refine ⟨_, _, rfl, rfl, ⟨2000002, 130, add_lt (a := 2000001) (add_lt (a := 2000000) bB (nat_lt b1 (by decide)) (by decide)) (nat_lt (a := 1) (by decide) (by decide)) (by decide), b2, by decide⟩, fun e3 _ => ?_⟩
      refine .inl ⟨_, rfl, _, _, rfl, rfl, ⟨by decide, by decide, by decide⟩, fun t1 h1 => ?_⟩
      subst h1
      refine ⟨_, _, rfl, rfl, _, _, rfl, rfl, by decide +kernel, fun u _ u0 u1 => ?_⟩
      have uB : u.natAbs < 2 ^ 140 := by
        have : (10 : Int) ^ Int.toNat 39 + 3 < 2 ^ 140 := by decide
        omega
      refine ⟨_, rfl, _, rfl, _, _, rfl, rfl, ⟨140, 140, uB, uB, by decide⟩, fun e4 he4 => ⟨_, rfl, _, _, rfl, rfl, ⟨17, 60, by decide, cB, by decide⟩, fun e5 he5 => ?_⟩⟩
      have b5 : e5.natAbs < 2 ^ 77 := by rw [he5]; exact wide_lt (a := 17) (b := 60) (by decide) cB
      refine ⟨_, rfl, _, _, rfl, rfl, ⟨77, 60, b5, cB, by decide⟩, fun e6 he6 => ⟨_, _, rfl, rfl, .inl ⟨_, rfl, _, _, rfl, rfl, ⟨by decide, by decide, by decide⟩, fun t2 h2 => ?_⟩⟩⟩
      subst h2
      refine ⟨_, _, rfl, rfl, _, _, rfl, rfl, by decide +kernel, fun v _ v0 v1 => ?_⟩
      have vB : v.natAbs < 2 ^ 140 := by
        have : (10 : Int) ^ Int.toNat 41 + 37 < 2 ^ 140 := by decide
        omega
      refine ⟨_, rfl, _, rfl, _, _, rfl, rfl, ⟨140, 140, vB, vB, by decide⟩, fun e7 he7 => ⟨_, rfl, _, _, rfl, rfl, .inl ⟨_, rfl, _, _, rfl, rfl, ⟨by decide, by decide, by decide⟩, fun t3 h3 => ?_⟩⟩⟩
      subst h3
      refine ⟨_, _, rfl, rfl, _, _, rfl, rfl, by decide +kernel, fun x _ x0 x1 => ?_⟩
      refine ⟨_, rfl, _, _, rfl, rfl, wide_div (b := 30) (by decide) (by decide) (by decide) (by decide), fun d _ => .inl ⟨_, rfl, _, rfl, _, _, rfl, rfl, m0, fun r _ r0 r1 => ?_⟩⟩
      exact k _ _ r0 r1 k1 ⟨_, _, _, hp1, a0, aB, bB, by omega, by omega⟩

/-! ### names: plain lists of codes -/
abbrev cd (s : Str) : List Nat := s.cps.toList
theorem cd_inj {a b : Str} (h : cd a = cd b) : a = b := by
  cases a; cases b
  exact congrArg Str.mk (Array.toList_inj.mp h)
theorem cd_app (a b : Str) : cd (a ++ b) = cd a ++ cd b := by
  show (a.cps ++ b.cps).toList = _
  rw [Array.toList_append]
theorem cd_rep (c n : Nat) : cd (repS ⟨#[c]⟩ n) = List.replicate n c := by
  show (repS ⟨#[c]⟩ n).cps.toList = _
  rw [repS_codes]
  induction n with
  | zero => rfl
  | succ n ih => rw [List.replicate_succ, List.flatten_cons, ih, List.replicate_succ]; rfl
theorem len_cd (s : Str) : s.length = (cd s).length := by show s.cps.size = _; rw [Array.length_toList]
def NameOk (s : Str) : Prop := 1 ≤ (cd s).length ∧ (cd s).length ≤ 8 ∧ ∀ c ∈ cd s, 97 ≤ c ∧ c ≤ 122
def ABC : Str := "abcdefghijklmnopqrstuvwxyz"
theorem abc_len : ABC.length ≤ 100000 := by decide +kernel
theorem abc_at {i : Int} (h0 : 0 ≤ i) (h1 : i < 26) : atI ABC.cps.toList i = some (97 + i.toNat) := by
  have : ∀ k : Nat, k < 26 → atI ABC.cps.toList (k : Int) = some (97 + k) := by decide +kernel
  have e := this i.toNat (by omega)
  rwa [Int.toNat_of_nonneg h0] at e
/-- k = j + 7 turned about: the k-th sign of the first way -/
def sgn (st j : Nat) : Nat := 97 + (st + 3 + 7 * j) % 26
def ky (way : Int) (t f : Nat) (s : Str) : List Nat := if way = 1 then [(cd s).idxOf t] else if way = 2 then [(cd s).length] else (cd s).filter (fun c => !(c == f))
def kk (way : Int) (st j : Nat) : List Nat := if way = 1 then [j] else if way = 2 then [j + 1] else if sgn st j = 97 + st then [] else [sgn st j]
theorem kk_inj {way : Int} {st i j : Nat} (hi : i < 8) (hj : j < 8) (h : kk way st i = kk way st j) : i = j := by
  unfold kk at h
  by_cases h1 : way = 1
  · rw [if_pos h1, if_pos h1] at h
    exact List.singleton_inj.mp h
  · rw [if_neg h1, if_neg h1] at h
    by_cases h2 : way = 2
    · rw [if_pos h2, if_pos h2] at h
      have := List.singleton_inj.mp h
      omega
    · rw [if_neg h2, if_neg h2] at h
      have key : sgn st i = sgn st j := by
        by_cases c1 : sgn st i = 97 + st
        · rw [if_pos c1] at h
          by_cases c2 : sgn st j = 97 + st
          · rw [c1, c2]
          · rw [if_neg c2] at h; cases h
        · rw [if_neg c1] at h
          by_cases c2 : sgn st j = 97 + st
          · rw [if_pos c2] at h; cases h
          · rw [if_neg c2] at h; exact List.singleton_inj.mp h
      unfold sgn at key
      omega
structure PoolOk (way : Int) (st t k : Nat) (pool : List Str) : Prop where
  len : pool.length = k
  ok : ∀ s ∈ pool, NameOk s
  nd : pool.Nodup
  key : way ≠ 3 → ∀ (j : Nat) s, pool[j]? = some s → ky way t (97 + st) s = kk way st j
theorem PoolOk.nil {way : Int} {st t : Nat} : PoolOk way st t 0 [] := ⟨rfl, by simp, List.nodup_nil, fun _ j s h => by simp at h⟩
theorem nodup_snoc {α : Type} {l : List α} {a : α} (h : l.Nodup) (n : a ∉ l) : (l ++ [a]).Nodup := by
  rw [List.nodup_append]
  refine ⟨h, by simp, fun x hx y hy => ?_⟩
  have : y = a := by simpa using hy
  rw [this]
  intro e
  exact n (e ▸ hx)
theorem PoolOk.snoc {way : Int} {st t k : Nat} {pool : List Str} {s : Str} (p : PoolOk way st t k pool) (hk : k < 8) (o : NameOk s) (h : way = 3 → s ∉ pool) (h2 : way ≠ 3 → ky way t (97 + st) s = kk way st k) : PoolOk way st t (k + 1) (pool ++ [s]) := by
  have notin : s ∉ pool := by
    by_cases c : way = 3
    · exact h c
    · intro m
      obtain ⟨j, e⟩ := List.getElem?_of_mem m
      have e2 := p.key c j s e
      have hj : j < k := by rw [← p.len]; exact (List.getElem?_eq_some_iff.mp e).1
      have := kk_inj (by omega) hk (e2.symm.trans (h2 c))
      omega
  refine ⟨by rw [List.length_append, p.len]; rfl, fun x hx => ?_, nodup_snoc p.nd notin, fun c j x e => ?_⟩
  · rcases List.mem_append.mp hx with m | m
    · exact p.ok x m
    · have : x = s := by simpa using m
      rw [this]; exact o
  · by_cases hj : j < pool.length
    · rw [List.getElem?_append_left hj] at e
      exact p.key c j x e
    · have hj2 : j = k := by
        have := (List.getElem?_eq_some_iff.mp e).1
        rw [List.length_append, p.len] at this
        rw [p.len] at hj
        simp at this
        omega
      subst hj2
      rw [List.getElem?_append_right (by rw [p.len]; exact Nat.le_refl _), p.len, Nat.sub_self] at e
      have : s = x := by simpa using e
      rw [← this]
      exact h2 c
theorem filt_rep (f n : Nat) : (List.replicate n f).filter (fun c => !(c == f)) = [] := by
  induction n with
  | zero => rfl
  | succ n ih => rw [List.replicate_succ, List.filter_cons_of_neg (by simp), ih]
theorem mid_ok {f c a b : Nat} (hf : 97 ≤ f ∧ f ≤ 122) (hc : 97 ≤ c ∧ c ≤ 122) (hl : a + b ≤ 7) : NameOk (repS ⟨#[f]⟩ a ++ (⟨#[c]⟩ : Str) ++ repS ⟨#[f]⟩ b) := by
  unfold NameOk
  rw [cd_app, cd_app, cd_rep, cd_rep]
  have e : cd (⟨#[c]⟩ : Str) = [c] := rfl
  rw [e]
  refine ⟨by simp; omega, by simp; omega, fun x hx => ?_⟩
  simp only [List.mem_append, List.mem_replicate, List.mem_singleton] at hx
  rcases hx with (⟨_, rfl⟩ | rfl) | ⟨_, rfl⟩
  · exact hf
  · exact hc
  · exact hf
theorem mid_key {way : Int} {st t k a b : Nat} (h1 : way ≠ 1) (h2 : way ≠ 2) : ky way t (97 + st) (repS ⟨#[97 + st]⟩ a ++ (⟨#[sgn st k]⟩ : Str) ++ repS ⟨#[97 + st]⟩ b) = kk way st k := by
  unfold ky kk
  rw [if_neg h1, if_neg h1, if_neg h2, if_neg h2, cd_app, cd_app, cd_rep, cd_rep, List.filter_append, List.filter_append, filt_rep, filt_rep, List.append_nil, List.nil_append]
  have e : cd (⟨#[sgn st k]⟩ : Str) = [sgn st k] := rfl
  rw [e]
  by_cases c : sgn st k = 97 + st
  · rw [if_pos c, List.filter_cons_of_neg (by simp [c])]
    rfl
  · rw [if_neg c, List.filter_cons_of_pos (by simp [c])]
    rfl
theorem tell_key {way : Int} {st t k b : Nat} (h1 : way = 1) (ht : t ≠ 97 + st) : ky way t (97 + st) (repS ⟨#[97 + st]⟩ k ++ (⟨#[t]⟩ : Str) ++ repS ⟨#[97 + st]⟩ b) = kk way st k := by
  unfold ky kk
  rw [if_pos h1, if_pos h1, cd_app, cd_app, cd_rep, cd_rep]
  have e : cd (⟨#[t]⟩ : Str) = [t] := rfl
  rw [e, List.append_assoc]
  have : ∀ k : Nat, (List.replicate k (97 + st) ++ ([t] ++ List.replicate b (97 + st))).idxOf t = k := by
    intro k
    induction k with
    | zero => simp [List.idxOf_cons]
    | succ k ih =>
      rw [List.replicate_succ, List.cons_append, List.idxOf_cons, ih]
      have : (97 + st == t) = false := by simp; omega
      rw [this]
      rfl
  rw [this]
theorem cut_codes {z : Str} {k : Nat} (h : k ≤ (cd z).length) : cd (cutS z none (some ((k : Nat) : Int))) = (cd z).take k := by
  show (cutS z none (some ((k : Nat) : Int))).cps.toList = _
  unfold cutS
  rw [HT.sIx_none, HT.sIx_nat, len_cd]
  simp only [List.drop_zero, Nat.sub_zero]
  rw [Nat.min_eq_left h]
theorem cut_ok {z : Str} {k : Nat} (h : (cd z).length = 8) (hz : ∀ c ∈ cd z, 97 ≤ c ∧ c ≤ 122) (hk : k < 8) : NameOk (cutS z none (some (((k + 1 : Nat)) : Int))) ∧ (cd (cutS z none (some (((k + 1 : Nat)) : Int)))).length = k + 1 := by
  have e := cut_codes (z := z) (k := k + 1) (by omega)
  have l : ((cd z).take (k + 1)).length = k + 1 := by rw [List.length_take]; omega
  unfold NameOk
  rw [e, l]
  exact ⟨⟨by omega, by omega, fun c hc => hz c (List.mem_of_mem_take hc)⟩, rfl⟩
/-- more unlike things than there are places: one is left -/
theorem left_one {α : Type} [DecidableEq α] : ∀ {xs ys : List α}, xs.Nodup → ys.length < xs.length → ∃ x ∈ xs, x ∉ ys := by
  intro xs
  induction xs with
  | nil => intro ys _ h; simp at h
  | cons x xs ih =>
    intro ys nd h
    by_cases hx : x ∈ ys
    · have nd2 := List.nodup_cons.mp nd
      have hl : (ys.erase x).length < xs.length := by rw [List.length_erase_of_mem hx]; simp at h; have := List.length_pos_of_mem hx; omega
      obtain ⟨z, hz, hn⟩ := ih nd2.2 hl
      refine ⟨z, List.mem_cons_of_mem _ hz, fun m => hn ?_⟩
      have ne : z ≠ x := fun e => nd2.1 (e ▸ hz)
      exact (List.mem_erase_of_ne ne).mpr m
    · exact ⟨x, List.mem_cons_self, hx⟩
/-- the nine spare words -/
def spare (st : Nat) : List Str := (List.range 9).map fun j => repS ⟨#[97 + (st + j) % 26]⟩ 8
theorem spare_nd (st : Nat) : (spare st).Nodup := by
  unfold spare
  rw [List.nodup_iff_pairwise_ne, List.pairwise_map]
  refine List.Pairwise.imp_of_mem (R := fun a b => a ≠ b) ?_ (List.nodup_iff_pairwise_ne.mp List.nodup_range)
  intro a b ha hb ne e
  have h := congrArg cd e
  rw [cd_rep, cd_rep] at h
  have h2 : 97 + (st + a) % 26 = 97 + (st + b) % 26 := by
    have := congrArg (fun l => l[0]?) h
    simpa [List.replicate_succ] using this
  have ha := List.mem_range.mp ha
  have hb := List.mem_range.mp hb
  omega
theorem spare_ok {st : Nat} {s : Str} (h : s ∈ spare st) : NameOk s := by
  unfold spare at h
  obtain ⟨j, _, rfl⟩ := List.mem_map.mp h
  unfold NameOk
  rw [cd_rep]
  refine ⟨by simp, by simp, fun c hc => ?_⟩
  have := (List.mem_replicate.mp hc).2
  omega

theorem join_signs : ∀ cs : List Nat, cd (Txt.join "" (cs.map fun c => (⟨#[c]⟩ : Str))) = cs := by
  intro cs
  show (Txt.join "" (cs.map fun c => (⟨#[c]⟩ : Str))).cps.toList = cs
  rw [TL.join_eq]
  show TL.tl (Str.join _ _) = cs
  rw [TL.tl_join]
  have : ∀ cs : List Nat, TL.joinL (TL.tl "") ((cs.map fun c => (⟨#[c]⟩ : Str)).map TL.tl) = cs := by
    intro cs
    induction cs with
    | nil => rfl
    | cons c cs ih =>
      cases cs with
      | nil => rfl
      | cons d cs => show [c] ++ ((TL.tl "") ++ TL.joinL (TL.tl "") (((d :: cs).map fun c => (⟨#[c]⟩ : Str)).map TL.tl)) = _; rw [ih]; rfl
  exact this cs
theorem signs_sum : ∀ cs : List Nat, ((cs.map fun c => (⟨#[c]⟩ : Str)).map (·.length)).sum = cs.length := by
  intro cs
  induction cs with
  | nil => rfl
  | cons c cs ih => rw [List.map_cons, List.map_cons, List.sum_cons, ih, List.length_cons]; show 1 + cs.length = _; omega
theorem map_signs (cs : List Nat) : cs.map (fun c => V.str ⟨#[c]⟩) = (cs.map fun c => (⟨#[c]⟩ : Str)).map V.str := by rw [List.map_map]; rfl
theorem flat_str : ∀ ss : List Str, (ss.map V.str).all flatV = true := by
  intro ss
  induction ss with
  | nil => rfl
  | cons s ss ih => rw [List.map_cons, List.all_cons, ih]; rfl
theorem in_str (s : Str) : ∀ ss : List Str, inV (.str s) (ss.map V.str) = decide (s ∈ ss) := by
  intro ss
  induction ss with
  | nil => rfl
  | cons t ss ih =>
    have e : inV (.str s) ((t :: ss).map V.str) = (eqV (.str t) (.str s) || inV (.str s) (ss.map V.str)) := by simp [inV]
    rw [e, ih]
    have e2 : eqV (.str t) (.str s) = decide (s = t) := by
      show decide (t = s) = decide (s = t)
      by_cases c : t = s
      · subst c; simp
      · rw [decide_eq_false c, decide_eq_false (fun z => c z.symm)]
    rw [e2]
    by_cases c : s = t <;> simp [c]
theorem rep1_len (c n : Nat) : (repS ⟨#[c]⟩ n).length = n := by rw [repS_len]; show n * 1 = n; omega
theorem app_len (a b : Str) : (a ++ b).length = a.length + b.length := by rw [len_cd, len_cd, len_cd, cd_app, List.length_append]
theorem two_len {a b : Nat} (h : a + b ≤ 100000) : a + b ≤ sizeLine := Evl.sz_of h
theorem int_of {a b : Int} (h : decide (V.int a = V.int b) = true) : a = b := by have := of_decide_eq_true h; injection this
theorem int_ne {a b : Int} (h : ¬ decide (V.int a = V.int b) = true) : a ≠ b := fun e => h (by rw [e]; exact decide_eq_true rfl)
theorem map_erase {α β : Type} (f : α → β) : ∀ (l : List α) (i : Nat), (l.eraseIdx i).map f = (l.map f).eraseIdx i
  | [], i => by simp
  | a :: l, 0 => rfl
  | a :: l, i + 1 => by show f a :: (l.eraseIdx i).map f = f a :: (l.map f).eraseIdx i; rw [map_erase f l i]
theorem perm_erase {α : Type} : ∀ {l : List α} {i : Nat} (h : i < l.length), (l[i] :: l.eraseIdx i).Perm l
  | a :: l, 0, _ => .refl _
  | a :: l, i + 1, h => by
    have h2 : i < l.length := by simpa using h
    have ih := perm_erase h2
    show (l[i] :: a :: l.eraseIdx i).Perm (a :: l)
    exact (List.Perm.swap _ _ _).trans (ih.cons a)
theorem set_nodup {α : Type} {l : List α} {i : Nat} {a : α} (h : l.Nodup) (n : a ∉ l) : (l.set i a).Nodup := by
  induction l generalizing i with
  | nil => simpa using h
  | cons x l ih =>
    have h2 := List.nodup_cons.mp h
    have n2 : a ∉ l := fun m => n (List.mem_cons_of_mem _ m)
    cases i with
    | zero => exact List.nodup_cons.mpr ⟨n2, h2.2⟩
    | succ i =>
      refine List.nodup_cons.mpr ⟨fun m => ?_, ih h2.2 n2⟩
      rcases List.mem_or_eq_of_mem_set m with z | z
      · exact h2.1 z
      · exact n (z ▸ List.mem_cons_self)
theorem four_names : ∀ r : Int, 0 ≤ r → r < 4 → ∃ z : Str, atI [V.str "end", V.str "lamps", V.str "buttons", V.str "press"] r = some (.str z) ∧ NameOk z := by
  intro r h0 h1
  have h : r = 0 ∨ r = 1 ∨ r = 2 ∨ r = 3 := by omega
  rcases h with rfl | rfl | rfl | rfl
  · exact ⟨"end", rfl, by unfold NameOk; decide +kernel⟩
  · exact ⟨"lamps", rfl, by unfold NameOk; decide +kernel⟩
  · exact ⟨"buttons", rfl, by unfold NameOk; decide +kernel⟩
  · exact ⟨"press", rfl, by unfold NameOk; decide +kernel⟩
def rJoinK (K : PySem.W.Frag) : V → List V → Hp → VK → Prop := fun x xs H Q => ∃ a p, ∃ ys : List Str, x = .str a ∧ xs = [.ref p] ∧ (SqL K H p (ys.map V.str) ∨ SqT K H p (ys.map V.str)) ∧ (ys.map (·.length)).sum + ys.length * a.length ≤ 16777216 ∧ Q (.str (Txt.join a ys)) H
theorem src_some {H : Hp} {p : Addr} {n : Int} (h : Src H p n) : H p ≠ none := by obtain ⟨_, _, _, h, _⟩ := h; rw [h]; simp
theorem Src.upd {H H1 : Hp} {p a : Addr} {o : HO} {n m : Int} (h0 : Src H p m) (ha : H a = none) (h : Src H1 p n) : Src (upd H1 a o) p n := h.keep fun u e => by rw [upd_ne (fun z => src_some h0 (by rw [z]; exact ha))]; exact e
/-- "".join([letters[draw(26)] for .. in range(n)]) -/
theorem word_of {σ : L2.St} {H : Hp} {Q : VK} {tn : TE} {n j : Nat} {vs : List Nat} {src : Addr} {m : Int} (hv : ∀ Q : VK, Q (.int (n : Int)) H → tn σ H Q) (hn : n ≤ 100) (hw : ∀ x, wipe ((wipe σ vs).set j (some x)) vs = wipe σ vs)
    (h0 : ∀ x, ((wipe σ vs).set j (some x))[0]? = some (some (.ref src))) (h2 : ∀ x, ((wipe σ vs).set j (some x))[2]? = some (some (.str ABC))) (S0 : Src H src m) (hm : m + n ≤ 999999)
    (q : ∀ (z : Str) H1, (cd z).length = n → (∀ c ∈ cd z, 97 ≤ c ∧ c ≤ 122) → Kp (· = src) H H1 → Src H1 src (m + n) → Q (.str z) H1) :
    tM1 (rJoinK K) (tC (.str "")) (tLc (iRng1 (tCons tn tNil)) (gName j) tYes (tOp ixSF (tVar 2) (tCall spDraw [] E0 (tCons (tVar 0) (tCons (tC (.int 26)) tNil)))) vs) σ H Q := by
  refine ⟨⟨_, rfl⟩, v_rng (n := n) hv (by omega) (· = src) (fun i acc H' => Src H' src (m + i) ∧ ∃ cs : List Nat, cs.length = i ∧ (∀ c ∈ cs, 97 ≤ c ∧ c ≤ 122) ∧ acc = cs.map (fun c => V.str ⟨#[c]⟩)) ⟨by simpa using S0, [], rfl, by simp, rfl⟩
      (fun a e => e ▸ src_some S0) (fun i acc H1' a o ha ⟨p1, p2⟩ => ⟨S0.upd ha p1, p2⟩) hw (fun i acc H1' hi kk ⟨p1, cs, c1, c2, c3⟩ Q' hQ => ?_) (fun acc p3 H3 hp3 k3 h3 ⟨S3, cs, c1, c2, c3⟩ => ?_)⟩
  · refine ⟨_, h2 _, _, h0 _, _, _, _, rfl, by decide, by decide, p1, by omega, fun r H2' r0 r1 k2' S2' => ⟨_, _, _, rfl, rfl, abc_len, abc_at r0 r1, hQ _ _ k2' ⟨S2'.mono (by omega), cs ++ [97 + r.toNat], by simp [c1], fun c hc => ?_, by rw [c3]; simp⟩⟩⟩
    rcases List.mem_append.mp hc with h | h
    · exact c2 c h
    · have : c = 97 + r.toNat := by simpa using h
      omega
  · refine ⟨_, _, cs.map fun c => (⟨#[c]⟩ : Str), rfl, rfl, .inl (SqL.of (by rw [h3, c3, map_signs])), ?_, ?_⟩
    · rw [signs_sum, List.length_map, c1]
      show n + n * 0 ≤ _
      omega
    · have wc := join_signs cs
      exact q _ H3 (by rw [wc, c1]) (by rw [wc]; exact c2) k3 S3
/-! _law_names; slots: 0:_law_source_here 1:_law_many 2:_law_letters 3:_law_start 4:_law_fill 5:_law_tell 6:_law_word 7:_law_way 8:_law_pool 9:_law_k 10:_law_size 11:_law_place 12:_law_sign 13:_law_fresh 14:_law_free 15:_law_more 16:_law_names_here 17:_law_some 18:_law_j -/
abbrev s__law_names : Stmt := top 24
abbrev N__law_names : List Str := ["_law_source_here", "_law_many", "_law_letters", "_law_start", "_law_fill", "_law_tell", "_law_word", "_law_way", "_law_pool", "_law_k", "_law_size", "_law_place", "_law_sign", "_law_fresh", "_law_free", "_law_more", "_law_names_here", "_law_some", "_law_j"]
theorem sc__law_names : FnScope N__law_names ["_law_source_here", "_law_many"] (defScope s__law_names) := ⟨rfl, rfl, rfl, by decide +kernel, rfl, by decide +kernel, by decide +kernel⟩
def spNames : Sp := fun vs H Q _ => ∃ (src : Addr) (many : Nat) (n : Int), vs = [.ref src, .int many] ∧ many ≤ 8 ∧ Src H src n ∧ n ≤ 900000 ∧
  ∀ (p : Addr) (H' : Hp) (ss : List Str), H p = none → Kp (· = src) H H' → Src H' src (n + 200) → H' p = some (.lst (ss.map .str)) → ss.length = many → ss.Nodup → (∀ s ∈ ss, NameOk s) → Q (.ref p) H'
theorem ok__law_names {f : Addr} {fd : FuncData} (F : Fun K "_law_names" "_law_names" s__law_names f fd) (Z : Bi mg) (D__law_draw : Df P w K mg base "_law_draw" 1 ["_law_source_here", "_law_limit"] spDraw) : FnOk P w K mg base CX0 2 f fd ["_law_source_here", "_law_many"] spNames := by
  refine F.ok sc__law_names (fun vs H Q E h => ?_) (fun cdv A outer s H vs Q E hr h => ?_)
  · obtain ⟨p, m, n, rfl, _⟩ := h
    rfl
  · obtain ⟨src, many, n, rfl, hm, S0, hn, q⟩ := h
    refine ⟨_, (pss_cons (ps_set (i := 2) sc__law_names.nd rfl (Or.inr rfl) pe_str)
    (pss_cons (ps_set (i := 3) sc__law_names.nd rfl (Or.inr rfl) (pe_df D__law_draw (hr.mono (by first | decide | omega)) rfl (pa_cons (pv 0) (pa_cons pe_int pa_nil))))
    (pss_cons (ps_set (i := 4) sc__law_names.nd rfl (Or.inl rfl) (pe_ix ix_SF (pv 2) (pv 3) (fun _ _ => rfl)))
    (pss_cons (ps_set (i := 5) sc__law_names.nd rfl (Or.inl rfl) (pe_ix ix_SF (pv 2) (pe_op op_modL (pe_callTy call_int1 (by rfl) Z.int (by decide +kernel) (pa_cons (pe_op op_add (pe_op op_add (pv 3) pe_int) (pe_df D__law_draw (hr.mono (by first | decide | omega)) rfl (pa_cons (pv 0) (pa_cons pe_int pa_nil)))) pa_nil)) pe_int) (fun _ _ => rfl)))
    (pss_cons (ps_set (i := 6) sc__law_names.nd rfl (Or.inl rfl) (pe_join pe_str (pe_lc (own := [("_law_k", 9)]) (by rfl) sc__law_names.nd (pi_range1 rfl Z.range (pa_cons pe_int pa_nil)) (blkOk_by (own := [("_law_k", 9)]) (N := N__law_names) (sc := defScope s__law_names) (by decide +kernel)) (fun _ _ _ _ _ => (pg_name (i := 9) sc__law_names.nd rfl (Or.inl rfl))) (fun _ _ _ _ _ => pts_nil) (fun _ _ _ _ _ => (pe_ix ix_SF (pv 2) (pe_df D__law_draw (hr.mono (by first | decide | omega)) rfl (pa_cons (pv 0) (pa_cons pe_int pa_nil))) (fun _ _ => rfl))))))
    (pss_cons (ps_set (i := 7) sc__law_names.nd rfl (Or.inl rfl) (pe_df D__law_draw (hr.mono (by first | decide | omega)) rfl (pa_cons (pv 0) (pa_cons pe_int pa_nil))))
    (pss_cons (ps_set (i := 8) sc__law_names.nd rfl (Or.inr rfl) (pe_lstF pa_nil))
    (pss_cons (ps_for PassesOwn.never rfl (pi_range1 rfl Z.range (pa_cons (pv 1) pa_nil)) (pg_name (i := 9) sc__law_names.nd rfl (Or.inl rfl))
      (pss_cons (ps_set (i := 10) sc__law_names.nd rfl (Or.inl rfl) (pe_df D__law_draw (hr.mono (by first | decide | omega)) rfl (pa_cons (pv 0) (pa_cons pe_int pa_nil))))
    (pss_cons (ps_set (i := 11) sc__law_names.nd rfl (Or.inl rfl) (pe_df D__law_draw (hr.mono (by first | decide | omega)) rfl (pa_cons (pv 0) (pa_cons (pe_op op_add (pv 10) pe_int) pa_nil))))
    (pss_cons (ps_set (i := 12) sc__law_names.nd rfl (Or.inl rfl) (pe_ix ix_SF (pv 2) (pe_op op_modL (pe_callTy call_int1 (by rfl) Z.int (by decide +kernel) (pa_cons (pe_op op_add (pe_op op_add (pv 3) pe_int) (pe_op op_mulL pe_int (pv 9))) pa_nil)) pe_int) (fun _ _ => rfl)))
    (pss_cons (ps_set (i := 13) sc__law_names.nd rfl (Or.inl rfl) (pe_op op_add_str (pe_op op_add_str (pe_op op_mul_si (pv 4) (pv 11)) (pv 12)) (pe_op op_mul_si (pv 4) (pe_op op_sub (pv 10) (pv 11)))))
    (Evl.pss_cut (ps_if (pt_cmpR op_eq (pv 7) pe_int (nomark _)) (pss_one (ps_set (i := 13) sc__law_names.nd rfl (Or.inl rfl) (pe_op op_add_str (pe_op op_add_str (pe_op op_mul_si (pv 4) (pv 9)) (pv 5)) (pe_op op_mul_si (pv 4) (pe_op op_sub pe_int (pv 9)))))) (pss_one (ps_if (pt_cmpR op_eq (pv 7) pe_int (nomark _)) (pss_one (ps_set (i := 13) sc__law_names.nd rfl (Or.inl rfl) (pe_slice sl_str (pv 6) po_none (po_some (pe_op op_add (pv 9) pe_int))))) (pss_one (ps_if (pt_cmpR op_eq (pv 7) pe_int (nomark _)) (pss_cons (ps_set (i := 14) sc__law_names.nd rfl (Or.inl rfl) (pe_join pe_str (pe_lc (own := [("_law_j", 18)]) (by rfl) sc__law_names.nd (pi_range1 rfl Z.range (pa_cons (pe_op op_add (pv 10) pe_int) pa_nil)) (blkOk_by (own := [("_law_j", 18)]) (N := N__law_names) (sc := defScope s__law_names) (by decide +kernel)) (fun _ _ _ _ _ => (pg_name (i := 18) sc__law_names.nd rfl (Or.inl rfl))) (fun _ _ _ _ _ => pts_nil) (fun _ _ _ _ _ => (pe_ix ix_SF (pv 2) (pe_df D__law_draw (hr.mono (by first | decide | omega)) rfl (pa_cons (pv 0) (pa_cons pe_int pa_nil))) (fun _ _ => rfl))))))
    (pss_cons (ps_setLc (i := 15) (own := [("_law_j", 18)]) (by rfl) sc__law_names.nd rfl rfl (sw_true rfl rfl rfl (by decide +kernel)) (pi_range1 rfl Z.range (pa_cons pe_int pa_nil)) (blkOk_by (own := [("_law_j", 18)]) (N := N__law_names) (sc := defScope s__law_names) (by decide +kernel)) (fun _ _ _ _ _ => (pg_name (i := 18) sc__law_names.nd rfl (Or.inl rfl))) (fun _ _ _ _ _ => pts_nil) (fun _ _ _ _ _ => (pe_op op_mul_si (pe_ix ix_SF (pv 2) (pe_op op_modL (pe_callTy call_int1 (by rfl) Z.int (by decide +kernel) (pa_cons (pe_op op_add (pv 3) (pv 18)) pa_nil)) pe_int) (fun _ _ => rfl)) pe_int)))
    (pss_one (ps_set (i := 13) sc__law_names.nd rfl (Or.inl rfl) (pe_ix ix_F (pe_lc (own := [("_law_some", 17)]) (by rfl) sc__law_names.nd (pi_list (pe_op op_catF (pe_lstF (pa_cons (pv 14) pa_nil)) (pv 15))) (blkOk_by (own := [("_law_some", 17)]) (N := N__law_names) (sc := defScope s__law_names) (by decide +kernel)) (fun _ _ _ _ _ => (pg_name (i := 17) sc__law_names.nd rfl (Or.inl rfl))) (fun _ _ _ _ _ => (pts_one (pt_cmpR op_niF (pv 17) (pv 8) rfl))) (fun _ _ _ _ _ => (pv 17))) pe_int (fun _ _ => rfl)))))) pss_nil)))))
    (pss_one (ps_expr (pe_mv 8 PySem.F.slot_list_append PySem.F.type_list_append mt_appF (pv 8) (pa_cons (pv 13) pa_nil))))))))))
    (pss_cons (ps_setLc (i := 16) (own := [("_law_k", 9)]) (by rfl) sc__law_names.nd rfl rfl (sw_true rfl rfl rfl (by decide +kernel)) (pi_range1 rfl Z.range (pa_cons (pv 1) pa_nil)) (blkOk_by (own := [("_law_k", 9)]) (N := N__law_names) (sc := defScope s__law_names) (by decide +kernel)) (fun _ _ _ _ _ => (pg_name (i := 9) sc__law_names.nd rfl (Or.inl rfl))) (fun _ _ _ _ _ => pts_nil) (fun _ _ _ _ _ => (pe_mv 8 PySem.F.slot_list_pop PySem.F.type_list_pop mt_popF (pv 8) (pa_cons (pe_df D__law_draw (hr.mono (by first | decide | omega)) rfl (pa_cons (pv 0) (pa_cons (pe_callB call_lenF (by rfl) Z.len (by decide +kernel) (pa_cons (pv 8) pa_nil)) pa_nil))) pa_nil))))
    (pss_cons (ps_set (i := 17) sc__law_names.nd rfl (Or.inl rfl) (pe_ix ix_F (pe_lstF (pa_cons pe_str (pa_cons pe_str (pa_cons pe_str (pa_cons pe_str pa_nil))))) (pe_df D__law_draw (hr.mono (by first | decide | omega)) rfl (pa_cons (pv 0) (pa_cons pe_int pa_nil))) (fun _ _ => rfl)))
    (pss_cons (ps_if (PW.pt (pw_and (pt_cmpR op_gt (pv 1) pe_int (nomark _)) (pw_and (pt_cmpR op_niF (pv 17) (pv 16) rfl) (pw_and1 (pt_cmpR op_eq (pe_df D__law_draw (hr.mono (by first | decide | omega)) rfl (pa_cons (pv 0) (pa_cons pe_int pa_nil))) pe_int (nomark _)))))) (pss_one (ps_asg (pv 17) (pg_sub (pv 16) (pe_df D__law_draw (hr.mono (by first | decide | omega)) rfl (pa_cons (pv 0) (pa_cons (pv 1) pa_nil))) set_listF))) pss_nil)
    (pss_one (ps_ret (pv 16)))))))))))))), ?_⟩
    -- start, fill, tell
    refine ⟨_, rfl, _, _, _, rfl, by decide, by decide, S0, by omega, fun st H1 st0 st1 k1 S1 => ?_⟩
    obtain ⟨s, rfl⟩ : ∃ s : Nat, st = (s : Int) := ⟨st.toNat, by omega⟩
    refine ⟨_, rfl, _, rfl, _, _, _, rfl, rfl, abc_len, abc_at st0 st1, ?_⟩
    refine ⟨_, rfl, _, rfl, _, _, rfl, rfl, _, rfl, _, _, _, rfl, by decide, by decide, S1, by omega, fun d H2 d0 d1 k2 S2 => ⟨_, _, rfl, rfl, .inl ⟨_, rfl, _, _, rfl, rfl, by decide, fun t et t0 t1 => ⟨_, _, _, rfl, rfl, abc_len, abc_at t0 t1, ?_⟩⟩⟩⟩
    have tne : 97 + t.toNat ≠ 97 + s := by omega
    generalize ht : 97 + t.toNat = tt at tne
    have ttr : 97 ≤ tt ∧ tt ≤ 122 := by omega
    have str : 97 ≤ 97 + s ∧ 97 + s ≤ 122 := by omega
    have k12 := k1.trans k2
    -- word
    walk_at "ex"
    refine word_of (n := 8) (fun _ q => q) (by decide) (by intro _; rfl) (by intro _; rfl) (by intro _; rfl) S2 (by omega) fun word H3 wl wr k3 S3 => ?_
    have S3' : Src H3 src (n + 10) := S3.mono (by omega)
    have k13 := k12.trans k3
    -- way, pool
    refine ⟨_, rfl, _, _, _, rfl, by decide, by decide, S3', by omega, fun way H4 way0 way1 k4 S4 => ?_⟩
    refine ⟨Nat.le_of_ble_eq_true rfl, fun pl H5 hpl4 e5 hpl => ?_⟩
    have plne : pl ≠ src := fun e => src_some S4 (e ▸ hpl4)
    have S5 : Src H5 src (n + 11) := (S4.keep fun o h => e5 _ _ h).mono (by omega)
    have k15 : Kp (· = src) H H5 := (k13.trans k4).trans (.of_ex e5)
    have pl0 : H pl = none := (k13.trans k4).free plne hpl4
    simp only [gName_ap]
    show tSeq (tFor _ _ _) _ _ _ _
    -- the loop
    refine s_rng (n := many) (by intro _ q; exact ⟨_, rfl, q⟩) (by omega) (fun k σ' H' => ∃ (o9 o10 o11 o12 o13 o14 o15 : Option V) (pool : List Str), σ' = [some (.ref src), some (.int many), some (.str ABC), some (.int s), some (.str ⟨#[97 + s]⟩), some (.str ⟨#[tt]⟩), some (.str word), some (.int way), some (.ref pl), o9, o10, o11, o12, o13, o14, o15, none, none, none] ∧
      Kp (· = src) H H' ∧ Src H' src (n + 11 + 10 * (k : Int)) ∧ H' pl = some (.lst (pool.map V.str)) ∧ PoolOk way s tt k pool) ⟨none, none, none, none, none, none, none, [], rfl, k15, by simpa using S5, hpl, .nil⟩ (fun k σ' H' hk p => ?_) (fun σ' H' p => ?_)
    · obtain ⟨o9, o10, o11, o12, o13, o14, o15, pool, rfl, kH, SH, hP, pk⟩ := p
      have k8 : k < 8 := by omega
      refine ⟨_, rfl, _, _, _, rfl, by decide, by decide, SH, by omega, fun sz Ha sz0 sz1 ka Sa => ?_⟩
      obtain ⟨sz, rfl⟩ : ∃ z : Nat, sz = (z : Int) := ⟨sz.toNat, by omega⟩
      refine ⟨_, rfl, _, rfl, _, _, rfl, rfl, _, _, _, rfl, by omega, by omega, Sa, by omega, fun pc Hb pc0 pc1 kb Sb => ?_⟩
      refine ⟨_, rfl, _, rfl, _, _, rfl, rfl, _, rfl, _, _, rfl, rfl, ⟨3, 20, by decide, by omega, by decide⟩, fun e he => ⟨_, _, rfl, rfl, .inl ⟨_, rfl, _, _, rfl, rfl, by decide, fun g hg g0 g1 => ⟨_, _, _, rfl, rfl, abc_len, abc_at g0 g1, ?_⟩⟩⟩⟩
      have eg : 97 + g.toNat = sgn s k := by unfold sgn; omega
      rw [eg]
      have kab := ka.trans kb
      have hPb : Hb pl = some (.lst (pool.map V.str)) := kab _ _ plne hP
      have sr : 97 ≤ sgn s k ∧ sgn s k ≤ 122 := by unfold sgn; omega
      refine ⟨_, rfl, _, rfl, _, _, rfl, rfl, pc0, by omega, (by decide : (1 : Nat) ≤ 1000), _, rfl, _, _, rfl, rfl, two_len (by rw [rep1_len]; show pc.toNat + 1 ≤ _; omega), _, rfl, _, rfl, _, rfl, _, _, rfl, rfl, _, _, rfl, rfl, by omega, by omega, (by decide : (1 : Nat) ≤ 1000), _, _, rfl, rfl, two_len (by rw [app_len, rep1_len, rep1_len]; show pc.toNat + 1 + _ ≤ _; omega), ?_⟩
      refine ⟨fun σ2 H2' => ∃ (z : Str) (p9 p10 p11 p12 p14 p15 : Option V), σ2 = [some (.ref src), some (.int many), some (.str ABC), some (.int s), some (.str ⟨#[97 + s]⟩), some (.str ⟨#[tt]⟩), some (.str word), some (.int way), some (.ref pl), p9, p10, p11, p12, some (.str z), p14, p15, none, none, none] ∧
        Kp (· = src) H H2' ∧ Src H2' src (n + 11 + 10 * (k : Int) + 10) ∧ H2' pl = some (.lst (pool.map V.str)) ∧ NameOk z ∧ (way = 3 → z ∉ pool) ∧ (way ≠ 3 → ky way tt (97 + s) z = kk way s k), ?_, fun σ2 H2' m => ?_⟩
      · refine ⟨_, rfl, rfl, _, rfl, ?_⟩
        refine ite2 (fun c => ?_) (fun c => ?_)
        · have c1 := int_of c
          refine ⟨_, rfl, _, rfl, _, _, rfl, rfl, by omega, by omega, (by decide : (1 : Nat) ≤ 1000), _, rfl, _, _, rfl, rfl, two_len (by rw [rep1_len]; show k + 1 ≤ _; omega), _, rfl, _, rfl, _, _, rfl, rfl, _, _, rfl, rfl, by omega, by omega, (by decide : (1 : Nat) ≤ 1000), _, _, rfl, rfl, two_len (by rw [app_len, rep1_len, rep1_len]; show k + 1 + _ ≤ _; omega), ?_⟩
          exact ⟨_, _, _, _, _, _, _, rfl, kH.trans kab, Sb.mono (by omega), hPb, mid_ok str ttr (by omega), fun z => absurd (c1.symm.trans z) (by decide), fun _ => tell_key c1 tne⟩
        · have c1 := int_ne c
          refine ⟨_, rfl, rfl, _, rfl, ?_⟩
          refine ite2 (fun c => ?_) (fun c => ?_)
          · have c2 := int_of c
            have cc := cut_ok wl wr k8
            refine ⟨_, rfl, _, rfl, _, _, rfl, rfl, _, rfl, _, rfl, Evl.sz_of (by rw [len_cd, wl]; decide), ?_⟩
            refine ⟨_, _, _, _, _, _, _, rfl, kH.trans kab, Sb.mono (by omega), hPb, cc.1, fun z => absurd (c2.symm.trans z) (by decide), fun _ => ?_⟩
            unfold ky kk
            rw [if_neg c1, if_neg c1, if_pos c2, if_pos c2]
            exact congrArg (fun l => [l]) cc.2
          · have c2 := int_ne c
            refine ⟨_, rfl, rfl, _, rfl, ?_⟩
            refine ite2 (fun c => ?_) (fun c => ?_)
            · have c3 := int_of c
              -- free
              walk_at "ex"
              refine word_of (n := sz + 1) (by intro _ q; exact ⟨_, rfl, _, _, rfl, rfl, q⟩) (by omega) (by intro _; rfl) (by intro _; rfl) (by intro _; rfl) Sb (by omega) fun free Hc fl fr kc Sc => ?_
              -- more
              walk_at "ex"
              refine v_rng (n := 9) (fun _ q => q) (by decide) (fun _ => False) (fun i acc H' => acc = ((List.range i).map fun j => repS ⟨#[97 + (s + j) % 26]⟩ 8).map V.str) rfl (fun _ z => z.elim) (fun _ _ _ _ _ _ p => p) (fun _ => rfl) (fun i acc H1' hi kk p Q' hQ => ?_) (fun acc mo Hd hmo kd hd p => ?_)
              · refine ⟨_, rfl, _, rfl, _, rfl, _, _, rfl, rfl, .inl ⟨_, rfl, _, _, rfl, rfl, by decide, fun g hg g0 g1 => ⟨_, _, _, rfl, rfl, abc_len, abc_at g0 g1, _, _, rfl, rfl, by decide, by decide, (by decide : (1 : Nat) ≤ 1000), hQ _ _ .refl ?_⟩⟩⟩
                rw [p, List.range_succ, List.map_append, List.map_append]
                have e : g.toNat = (s + i) % 26 := by omega
                rw [e]
                rfl
              have kd' : Evl.Ex Hc Hd := fun a o h => kd a o (fun z => z) h
              have hPd : Hd pl = some (.lst (pool.map V.str)) := kd' _ _ (kc _ _ plne hPb)
              rw [p] at hd
              -- the first one that is not there
              walk_at "ex"
              refine v_new (xs := (free :: spare s).map V.str) (fun R q => ⟨_, rfl, Nat.le_of_ble_eq_true rfl, fun l1 He hl1 ee he => ⟨_, rfl, _, _, _, _, rfl, rfl, he, ee _ _ hd, by simp, fun l2 Hf hl2 ef hf => q _ _ (Evl.fresh_back ee hl2) (ee.trans ef) (lstAt_of hf)⟩⟩) (by simp [spare]) (fun _ => False)
                (fun i acc H' => acc = (((free :: spare s).take i).filter (fun z => !decide (z ∈ pool))).map V.str) (fun _ _ => rfl) (fun _ z => z.elim) (fun _ _ _ _ _ _ p => p) (fun _ => rfl) (fun i x acc H1' hx kk p Q' h1 h2 => ?_) (fun acc p3 He hp3 ke he p => ?_)
              · rw [List.getElem?_map] at hx
                cases hz : (free :: spare s)[i]? with
                | none => rw [hz] at hx; cases hx
                | some z =>
                  rw [hz] at hx
                  have ex : V.str z = x := by simpa using hx
                  subst ex
                  have hi : i < (free :: spare s).length := (List.getElem?_eq_some_iff.mp hz).1
                  have et : (free :: spare s).take (i + 1) = (free :: spare s).take i ++ [z] := by rw [List.take_add_one, hz]; rfl
                  have hP1 : H1' pl = some (.lst (pool.map V.str)) := kk _ _ (fun y => y) hPd
                  refine ⟨_, rfl, _, rfl, _, _, rfl, seqAt_lst hP1, rfl, flat_str _, _, rfl, ?_⟩
                  rw [in_str]
                  by_cases cz : z ∈ pool
                  · rw [decide_eq_true cz]
                    refine h1 H1' .refl ?_
                    rw [p, et, List.filter_append, List.filter_cons_of_neg (by simp [cz])]
                    simp
                  · rw [decide_eq_false cz]
                    refine h2 H1' .refl fun Q'' hq => ⟨_, rfl, hq _ _ .refl ?_⟩
                    rw [p, et, List.filter_append, List.filter_cons_of_pos (by simp [cz])]
                    simp
              · rw [List.length_map, List.take_length] at p
                obtain ⟨y, hy, ny⟩ := left_one (ys := pool) (spare_nd s) (by rw [pk.len]; simp [spare]; omega)
                have my : y ∈ (free :: spare s).filter (fun z => !decide (z ∈ pool)) := List.mem_filter.mpr ⟨List.mem_cons_of_mem _ hy, by simp [ny]⟩
                cases hf : (free :: spare s).filter (fun z => !decide (z ∈ pool)) with
                | nil => rw [hf] at my; cases my
                | cons z rest =>
                  rw [hf] at p
                  subst p
                  have mz : z ∈ (free :: spare s).filter (fun z => !decide (z ∈ pool)) := by rw [hf]; exact List.mem_cons_self
                  obtain ⟨mz1, mz2⟩ := List.mem_filter.mp mz
                  have nz : z ∉ pool := by simpa using mz2
                  have oz : NameOk z := by
                    rcases List.mem_cons.mp mz1 with e | e
                    · rw [e]
                      exact ⟨by omega, by omega, fr⟩
                    · exact spare_ok e
                  have kce : Kp (· = src) Hb He := kc.trans ((Kp.of_ex kd').trans (.of_ex fun a o h => ke a o (fun z => z) h))
                  have Se : Src He src (n + 11 + 10 * (k : Int) + 10) := (Sc.keep fun o h => ke _ _ (fun z => z) (kd' _ _ h)).mono (by omega)
                  refine ⟨_, _, _, _, rfl, rfl, seqAt_lst he, at0, ?_⟩
                  exact ⟨_, _, _, _, _, _, _, rfl, kH.trans (kab.trans kce), Se, kce _ _ plne hPb, oz, fun _ => nz, fun z => absurd c3 z⟩
            · have c3 := int_ne c
              exact ⟨_, _, _, _, _, _, _, rfl, kH.trans kab, Sb.mono (by omega), hPb, mid_ok str sr (by omega), fun z => absurd z c3, fun _ => mid_key c1 c2⟩
      · obtain ⟨z, p9, p10, p11, p12, p14, p15, rfl, kz, Sz, hz, z1, z2, z3⟩ := m
        refine ⟨_, _, rfl, lstAt_of hz, _, rfl, _, _, _, rfl, rfl, hz, by rw [List.length_map, pk.len]; omega, fun He ke he => ?_⟩
        refine ⟨p9, p10, p11, p12, some (.str z), p14, p15, pool ++ [z], rfl, fun a o n e => ?_, ?_, by rw [he, List.map_append]; rfl, pk.snoc k8 z1 z2 z3⟩
        · exact ke _ _ (fun y => by rw [y, pl0] at e; cases e) (kz _ _ n e)
        · exact (Sz.keep fun o h => ke _ _ (fun y => plne y.symm) h).mono (by omega)
    · obtain ⟨o9, o10, o11, o12, o13, o14, o15, pool, rfl, kH, SH, hP, pk⟩ := p
      walk_at "ex"
      -- the names in a drawn order
      refine v_rng (n := many) (by intro _ q; exact ⟨_, rfl, q⟩) (by omega) (fun a => a = src ∨ a = pl) (fun i acc H1' => ∃ ts ps : List Str, acc = ts.map V.str ∧ H1' pl = some (.lst (ps.map V.str)) ∧ (ts ++ ps).Perm pool ∧ ts.length = i ∧ Src H1' src (n + 91 + i)) ⟨[], pool, rfl, hP, .refl _, rfl, SH.mono (by omega)⟩
        (fun a e => ?_) (fun i acc H1' a o ha ⟨ts, ps, p1, p2, p3, p4, p5⟩ => ⟨ts, ps, p1, ?_, p3, p4, SH.upd ha p5⟩) (fun _ => rfl) (fun i acc H1' hi kk ⟨ts, ps, p1, p2, p3, p4, p5⟩ Q' hQ => ?_) (fun acc p6 H6 hp6 k6 h6 ⟨ts, ps, p1, p2, p3, p4, p5⟩ => ?_)
      · rcases e with rfl | rfl
        · exact src_some SH
        · rw [hP]; simp
      · rw [upd_ne (ne_of_none hP ha)]
        exact p2
      · have lp : ps.length = many - i := by
          have := p3.length_eq
          rw [List.length_append, p4, pk.len] at this
          omega
        refine ⟨_, _, rfl, lstAt_of p2, _, rfl, _, rfl, _, _, rfl, seqAt_lst p2, _, _, _, rfl, by rw [List.length_map, lp]; omega, by rw [List.length_map, lp]; omega, p5, by omega, fun r H7 r0 r1 k7 S7 => ?_⟩
        have hr : r.toNat < ps.length := by rw [List.length_map] at r1; omega
        have hz : ps[r.toNat]? = some ps[r.toNat] := by simp [hr]
        refine ⟨_, _, _, r.toNat, _, rfl, rfl, k7 _ _ plne p2, by omega, by omega, by rw [List.getElem?_map, hz]; rfl, fun H8 k8 h8 => ?_⟩
        refine hQ _ _ (fun a o n e => k8 a o (fun y => n (.inr y)) (k7 a o (fun y => n (.inl y)) e)) ⟨ts ++ [ps[r.toNat]], ps.eraseIdx r.toNat, by rw [p1, List.map_append]; rfl, by rw [h8, ← map_erase], ?_, by rw [List.length_append, p4]; rfl, (S7.keep fun o h => k8 _ _ (fun y => plne y.symm) h).mono (by omega)⟩
        refine List.Perm.trans ?_ p3
        rw [List.append_assoc]
        exact List.Perm.append_left _ (by rw [List.singleton_append]; exact (perm_erase hr))
      · have e0 : ps = [] := by
          have := p3.length_eq
          rw [List.length_append, p4, pk.len] at this
          exact List.eq_nil_of_length_eq_zero (by omega)
        subst e0
        rw [List.append_nil] at p3
        subst p1
        have tl : ts.length = many := p4
        have tnd : ts.Nodup := p3.nodup_iff.mpr pk.nd
        have tok : ∀ s ∈ ts, NameOk s := fun s h => pk.ok s (p3.mem_iff.mp h)
        have n6 : p6 ≠ src := fun e => src_some SH (e ▸ hp6)
        have kH6 : Kp (· = src) H H6 := fun a o n e => k6 a o (fun y => y.elim n fun z => by rw [z, pl0] at e; cases e) (kH a o n e)
        have p60 : H p6 = none := kH.free n6 hp6
        -- some
        refine ⟨Nat.le_of_ble_eq_true rfl, fun t9 H9 ht9 e9 h9 => ⟨_, rfl, _, _, _, rfl, by decide, by decide, p5.keep fun o h => e9 _ _ h, by omega, fun r H10 r0 r1 k10 S10 => ?_⟩⟩
        obtain ⟨z, hz, oz⟩ := four_names r r0 r1
        have n9 : t9 ≠ src := fun e => src_some p5 (e ▸ ht9)
        refine ⟨_, _, _, _, rfl, rfl, seqAt_lst (k10 _ _ n9 h9), hz, ?_⟩
        have h10 : H10 p6 = some (.lst (ts.map V.str)) := k10 _ _ n6 (e9 _ _ h6)
        have kH10 : Kp (· = src) H H10 := kH6.trans ((Kp.of_ex e9).trans k10)
        -- end
        refine ⟨_, rfl, _, _, rfl, rfl, _, rfl, ?_⟩
        refine ite2 (fun c1 => ?_) (fun c1 => ?_)
        · refine ⟨_, rfl, _, rfl, _, _, rfl, seqAt_lst h10, rfl, flat_str _, _, rfl, ?_⟩
          rw [in_str]
          by_cases cz : z ∈ ts
          · rw [decide_eq_true cz]
            refine ⟨_, rfl, ?_⟩
            exact q _ _ ts p60 kH10 (S10.mono (by omega)) h10 tl tnd tok
          · rw [decide_eq_false cz]
            refine ⟨_, rfl, _, _, _, rfl, by decide, by decide, S10, by omega, fun r2 H11 _ _ k11 S11 => ⟨rfl, _, rfl, ?_⟩⟩
            have h11 : H11 p6 = some (.lst (ts.map V.str)) := k11 _ _ n6 h10
            refine ite2 (fun c2 => ?_) (fun c2 => ?_)
            · have m0 : 0 < many := by have := of_decide_eq_true c1; omega
              refine ⟨_, rfl, _, rfl, _, rfl, _, rfl, _, _, _, rfl, by omega, by omega, S11, by omega, fun j H12 j0 j1 k12 S12 => ?_⟩
              have hj : j = ((j.toNat : Nat) : Int) := by omega
              have h12 : H12 p6 = some (.lst (ts.map V.str)) := k12 _ _ n6 h11
              refine ⟨_, _, _, j.toNat, rfl, rfl, h12, by rw [hj]; exact Evl.ixN_nat (by rw [List.length_map]; omega), fun H13 k13 h13 => ⟨_, rfl, ?_⟩⟩
              refine q _ _ (ts.set j.toNat z) p60 ?_ ((S12.keep fun o h => k13 _ _ (fun y => n6 y.symm) h).mono (by omega)) (by rw [h13, List.map_set]) (by rw [List.length_set, tl]) (set_nodup tnd cz) fun x hx => ?_
              · exact fun a o n e => k13 _ _ (fun y => by rw [y, p60] at e; cases e) ((kH10.trans (k11.trans k12)) a o n e)
              · rcases List.mem_or_eq_of_mem_set hx with y | y
                · exact tok x y
                · rw [y]; exact oz
            · refine ⟨_, rfl, ?_⟩
              exact q _ _ ts p60 (kH10.trans k11) (S11.mono (by omega)) h11 tl tnd tok
        · refine iteF ?_
          refine ⟨_, rfl, ?_⟩
          exact q _ _ ts p60 kH10 (S10.mono (by omega)) h10 tl tnd tok

/-! ### one sorted list of texts -/
theorem le_of_not {a b : Str} (h : PySem.Spec.ltCps (cd b) (cd a) = false) : cd a ≤ cd b := by
  rw [PyProof.Rows.ltCps_eq] at h
  exact of_decide_eq_false h
theorem rising_pw : ∀ (l : List Str) (p : Str), PyProof.Rows.risingS p l = true → (p :: l).Pairwise (fun a b => cd a ≤ cd b)
  | [], p, _ => List.pairwise_singleton _ _
  | x :: r, p, h => by
    unfold PyProof.Rows.risingS at h
    rw [Bool.and_eq_true] at h
    have h1 : cd p ≤ cd x := le_of_not (by simpa using h.1)
    have ih := rising_pw r x h.2
    refine List.pairwise_cons.mpr ⟨fun y hy => ?_, ih⟩
    rcases List.mem_cons.mp hy with e | e
    · rw [e]; exact h1
    · exact List.le_trans h1 ((List.pairwise_cons.mp ih).1 y e)
theorem sorted_pw {l : List Str} (h : PyProof.Rows.sortedS l = true) : l.Pairwise (fun a b => cd a ≤ cd b) := by
  cases l with
  | nil => exact List.Pairwise.nil
  | cons x r => exact rising_pw r x h
theorem sorted_one : ∀ {xs ys : List Str}, xs.Perm ys → xs.Pairwise (fun a b => cd a ≤ cd b) → ys.Pairwise (fun a b => cd a ≤ cd b) → xs = ys
  | [], ys, p, _, _ => (List.nil_perm.mp p).symm
  | x :: xs, [], p, _, _ => by have := p.length_eq; simp at this
  | x :: xs, y :: ys, p, h1, h2 => by
    have a1 := List.pairwise_cons.mp h1
    have a2 := List.pairwise_cons.mp h2
    have e : x = y := by
      have mx : x ∈ y :: ys := p.mem_iff.mp List.mem_cons_self
      have my : y ∈ x :: xs := p.mem_iff.mpr List.mem_cons_self
      rcases List.mem_cons.mp mx with z | z
      · exact z
      · rcases List.mem_cons.mp my with z2 | z2
        · exact z2.symm
        · exact cd_inj (List.le_antisymm (a1.1 y z2) (a2.1 x z))
    subst e
    rw [sorted_one (List.Perm.cons_inv p) a1.2 a2.2]
open Classical in
/-- the sorted list of these texts -/
noncomputable def srt (l : List Str) : List Str := if h : ∃ ys : List Str, ys.Perm l ∧ PyProof.Rows.sortedS ys = true then h.choose else l
theorem srt_eq {l ys : List Str} (p : ys.Perm l) (s : PyProof.Rows.sortedS ys = true) : ys = srt l := by
  have h : ∃ ys : List Str, ys.Perm l ∧ PyProof.Rows.sortedS ys = true := ⟨ys, p, s⟩
  unfold srt
  rw [dif_pos h]
  exact sorted_one (p.trans h.choose_spec.1.symm) (sorted_pw s) (sorted_pw h.choose_spec.2)
theorem srt_perm_of {l l2 : List Str} (p : l.Perm l2) : srt l = srt l2 ∨ ¬ ∃ ys : List Str, ys.Perm l ∧ PyProof.Rows.sortedS ys = true := by
  by_cases h : ∃ ys : List Str, ys.Perm l ∧ PyProof.Rows.sortedS ys = true
  · obtain ⟨ys, p1, s⟩ := h
    exact .inl ((srt_eq p1 s).symm.trans (srt_eq (p1.trans p) s))
  · exact .inr h

/-! PressError.__init__; slots: 0:self 1:value -/
abbrev s_PressError___init__ : Stmt := inClass (top 2) 0
abbrev N_PressError___init__ : List Str := ["self", "value"]
theorem sc_PressError___init__ : FnScope N_PressError___init__ ["self", "value"] (defScope s_PressError___init__) := ⟨rfl, rfl, rfl, by decide +kernel, rfl, by decide +kernel, by decide +kernel⟩
theorem ok_err_init {f : Addr} {fd : FuncData} (F : Fun K "__init__" "PressError.__init__" s_PressError___init__ f fd) : FnOk P w K mg base CX0 1 f fd ["self", "value"] (spErrI K) := by
  refine F.ok sc_PressError___init__ (fun vs H Q E h => ?_) (fun cdv A outer s H vs Q E hr h => ?_)
  · obtain ⟨a, C, v, rfl, _⟩ := h
    rfl
  · obtain ⟨a, C, v, rfl, ho, hno, ha, q⟩ := h
    refine ⟨_, pss_one (ps_ost (pv 0) (pv 1)), ?_⟩
    exact ⟨_, rfl, _, rfl, a, C, rfl, ho, hno, .inl ⟨ha, fun dx hdx ne => q dx hdx ne⟩⟩
/-! is_index; slots: 0:number 1:count -/
abbrev s_is_index : Stmt := top 11
abbrev N_is_index : List Str := ["number", "count"]
theorem sc_is_index : FnScope N_is_index ["number", "count"] (defScope s_is_index) := ⟨rfl, rfl, rfl, by decide +kernel, rfl, by decide +kernel, by decide +kernel⟩
def spIndex : Sp := fun vs H Q _ => ∃ i n : Int, vs = [.int i, .int n] ∧ Q (.bl (decide (0 ≤ i) && decide (i < n))) H
theorem ok_is_index {f : Addr} {fd : FuncData} (F : Fun K "is_index" "is_index" s_is_index f fd) : FnOk P w K mg base CX0 1 f fd ["number", "count"] spIndex := by
  refine F.ok sc_is_index (fun vs H Q E h => ?_) (fun cdv A outer s H vs Q E hr h => ?_)
  · obtain ⟨a, v, rfl, _⟩ := h
    rfl
  · obtain ⟨i, n, rfl, q⟩ := h
    refine ⟨_, (pss_one (ps_ret (pe_chain op_le op_lt pe_int (pv 0) (pv 1)))), ?_⟩
    refine ⟨_, rfl, _, _, rfl, rfl, _, rfl, ?_⟩
    by_cases c : 0 ≤ i
    · rw [decide_eq_true c] at q ⊢
      exact ⟨_, rfl, _, _, rfl, rfl, q⟩
    · rw [decide_eq_false c] at q ⊢
      exact q
/-! is_name; slots: 0:text 1:letter -/
abbrev s_is_name : Stmt := top 12
abbrev N_is_name : List Str := ["text", "letter"]
theorem sc_is_name : FnScope N_is_name ["text"] (defScope s_is_name) := ⟨rfl, rfl, rfl, by decide +kernel, rfl, by decide +kernel, by decide +kernel⟩
def isNm (s : Str) : Bool := (decide (1 ≤ (cd s).length) && decide ((cd s).length ≤ 8)) && (cd s).all fun c => decide (c ∈ cd ABC)
theorem mem_abc : ∀ c : Nat, c ∈ cd ABC ↔ 97 ≤ c ∧ c ≤ 122 := by
  intro c
  have e : cd ABC = (List.range 26).map (97 + ·) := by decide +kernel
  rw [e, List.mem_map]
  constructor
  · rintro ⟨k, hk, rfl⟩
    have := List.mem_range.mp hk
    omega
  · intro h
    exact ⟨c - 97, List.mem_range.mpr (by omega), by omega⟩
theorem isNm_iff (s : Str) : isNm s = true ↔ NameOk s := by
  unfold isNm NameOk
  simp only [Bool.and_eq_true, decide_eq_true_eq, List.all_eq_true, mem_abc, and_assoc]
def spIsName : Sp := fun vs H Q _ => ∃ s : Str, vs = [.str s] ∧ s.length ≤ 1000 ∧ ∀ H', Evl.Ex H H' → Q (.bl (isNm s)) H'
theorem ok_is_name {f : Addr} {fd : FuncData} {tL tM : Tok} (F : Fun K "is_name" "is_name" s_is_name f fd) (Z : Bi mg) (g_LETTERS : mg "LETTERS" = some (.str ABC tL)) (g_LONGEST_NAME : mg "LONGEST_NAME" = some (.int 8 tM)) : FnOk P w K mg base CX0 1 f fd ["text"] spIsName := by
  refine F.ok sc_is_name (fun vs H Q E h => ?_) (fun cdv A outer s H vs Q E hr h => ?_)
  · obtain ⟨a, rfl, _⟩ := h
    rfl
  · obtain ⟨z, rfl, hz, q⟩ := h
    refine ⟨_, (pss_one (ps_ret (pe_and (pe_chain op_le op_le pe_int (pe_callB call_len_str (by rfl) Z.len (by decide +kernel) (pa_cons (pv 0) pa_nil)) (pe_glob (v := .int (8)) rfl g_LONGEST_NAME ⟨_, rfl⟩)) (pe_one (pe_callB (cr_all rfl) (by rfl) Z.all (by decide +kernel) (pa_cons (pe_lc (own := [("letter", 1)]) (by rfl) sc_is_name.nd (pi_str (pv 0)) (blkOk_by (own := [("letter", 1)]) (N := N_is_name) (sc := defScope s_is_name) (by decide +kernel)) (fun _ _ _ _ _ => (pg_name (i := 1) sc_is_name.nd rfl (Or.inl rfl))) (fun _ _ _ _ _ => pts_nil) (fun _ _ _ _ _ => (pe_cmpR op_in_sign (pv 1) (pe_glob (v := .str ABC) rfl g_LETTERS ⟨_, rfl⟩) rfl))) pa_nil)))))), ?_⟩
    refine ⟨_, rfl, _, rfl, Evl.sz_of (by omega), _, _, rfl, rfl, _, rfl, ?_⟩
    have lz : (z.length : Int) = ((cd z).length : Int) := by rw [len_cd]
    rw [lz]
    unfold isNm at q
    by_cases c1 : 1 ≤ (cd z).length
    · rw [decide_eq_true (show (1 : Int) ≤ ((cd z).length : Int) by omega)]
      rw [decide_eq_true c1] at q
      refine ⟨_, _, rfl, rfl, _, rfl, ?_⟩
      by_cases c2 : (cd z).length ≤ 8
      · rw [decide_eq_true (show ((cd z).length : Int) ≤ 8 by omega)]
        rw [decide_eq_true c2] at q
        refine iteT ?_
        walk_at "ex"
        refine v_str (z := z) (by intro _ q; exact ⟨_, rfl, q⟩) (by omega) (fun _ => False) (fun i acc H' => acc = (((cd z).take i).map fun c => decide (c ∈ cd ABC)).map V.bl) rfl (fun _ y => y.elim) (fun _ _ _ _ _ _ p => p) (by intro _; rfl) (fun i c acc H1' hc kk p Q' h1 h2 => ?_) (fun acc p3 H3 hp3 k3 h3 p => ?_)
        · refine h2 H1' .refl fun Q'' hq => ⟨_, rfl, _, _, rfl, rfl, hq _ _ .refl ?_⟩
          rw [p, List.take_add_one, hc, List.map_append, List.map_append]
          rfl
        · rw [len_cd, List.take_length] at p
          refine ⟨_, _, rfl, SqL.of (by rw [h3, p]), ?_⟩
          have e : ((cd z).map fun c => decide (c ∈ cd ABC)).all id = (cd z).all fun c => decide (c ∈ cd ABC) := by rw [List.all_map]; rfl
          rw [e]
          exact q H3 fun a o h => k3 a o (fun y => y) h
      · rw [decide_eq_false (show ¬ ((cd z).length : Int) ≤ 8 by omega)]
        rw [decide_eq_false c2] at q
        exact q H (Evl.Ex.refl H)
    · rw [decide_eq_false (show ¬ (1 : Int) ≤ ((cd z).length : Int) by omega)]
      rw [decide_eq_false c1] at q
      exact ⟨_, rfl, q H (Evl.Ex.refl H)⟩
/-! check_names; slots: 0:names 1:before 2:name -/
abbrev s_check_names : Stmt := top 13
abbrev N_check_names : List Str := ["names", "before", "name"]
theorem sc_check_names : FnScope N_check_names ["names"] (defScope s_check_names) := ⟨rfl, rfl, rfl, by decide +kernel, rfl, by decide +kernel, by decide +kernel⟩
/-- the first entry that is no name (false) or stood before (true) -/
def nmErr : List Str → List Str → Option (Bool × Str)
  | _, [] => none
  | seen, s :: r => if isNm s = true then (if s ∈ seen then some (true, s) else nmErr (seen ++ [s]) r) else some (false, s)
def spCkNames (CI CD : Addr) : Sp := fun vs H Q E => ∃ (a : Addr) (ss : List Str), vs = [.ref a] ∧ lstAt H a = some (ss.map V.str) ∧ ss.length ≤ 100 ∧ (∀ s ∈ ss, s.length ≤ 1000) ∧ (∀ H', nmErr [] ss = none → Evl.Ex H H' → Q .non H') ∧
  ∀ b s d H', nmErr [] ss = some (b, s) → Evl.Ex H H' → H d = none → H' d = some (.xd [("value", .str s)]) → E (.ref (if b then CD else CI)) (some d) H'
theorem nmErr_at : ∀ {ss : List Str} {i : Nat} {seen : List Str}, nmErr seen (ss.take i) = none → i ≤ ss.length → nmErr seen ss = nmErr (seen ++ ss.take i) (ss.drop i)
  | [], i, seen, _, hi => by
    have : i = 0 := by simpa using hi
    subst this
    simp
  | s :: ss, 0, seen, _, _ => by simp
  | s :: ss, i + 1, seen, h, hi => by
    rw [List.take_succ_cons] at h
    unfold nmErr at h
    split at h
    · rename_i c1
      split at h
      · cases h
      · rename_i c2
        have ih := nmErr_at (ss := ss) (i := i) (seen := seen ++ [s]) h (by simpa using hi)
        show (if isNm s = true then (if s ∈ seen then some (true, s) else nmErr (seen ++ [s]) ss) else some (false, s)) = _
        rw [if_pos c1, if_neg c2, ih, List.take_succ_cons, List.drop_succ_cons, List.append_assoc]
        rfl
    · cases h
theorem nmErr_snoc : ∀ {l seen : List Str} {s : Str}, nmErr seen l = none → isNm s = true → s ∉ seen ++ l → nmErr seen (l ++ [s]) = none
  | [], seen, s, _, c, m => by
    show (if isNm s = true then (if s ∈ seen then some (true, s) else none) else some (false, s)) = none
    rw [if_pos c, if_neg (by simpa using m)]
  | t :: l, seen, s, h, c, m => by
    unfold nmErr at h
    show (if isNm t = true then (if t ∈ seen then some (true, t) else nmErr (seen ++ [t]) (l ++ [s])) else some (false, t)) = none
    split at h
    · rename_i c1
      split at h
      · cases h
      · rename_i c2
        rw [if_pos c1, if_neg c2]
        exact nmErr_snoc h c (by rw [List.append_assoc]; exact m)
    · cases h
theorem lstAt_ex {H H' : Hp} {a : Addr} {xs : List V} (e : Evl.Ex H H') (h : lstAt H a = some xs) : lstAt H' a = some xs := by
  unfold lstAt at h ⊢
  cases q : H a with
  | none => rw [q] at h; cases h
  | some o => rw [e a o q]; rw [q] at h; exact h
theorem map_at {α : Type} {f : α → V} {l : List α} {i : Nat} {x : V} (h : (l.map f)[i]? = some x) : ∃ s, l[i]? = some s ∧ f s = x := by
  rw [List.getElem?_map] at h
  cases q : l[i]? with
  | none => rw [q] at h; cases h
  | some s => rw [q] at h; exact ⟨s, rfl, by simpa using h⟩
theorem valV_seen (s : Str) : ∀ seen : List Str, valV (seen.map fun t => ((Sum.inr t : Key), V.bl true)) (Sum.inr s) = if s ∈ seen then some (.bl true) else none := by
  intro seen
  induction seen with
  | nil => rfl
  | cons t seen ih =>
    rw [List.map_cons]
    by_cases c : t = s
    · rw [valV_pos (by rw [c]), if_pos (by rw [c]; exact List.mem_cons_self)]
    · rw [valV_neg (by intro e; exact c (Sum.inr.inj e)), ih]
      by_cases m : s ∈ seen
      · rw [if_pos m, if_pos (List.mem_cons_of_mem _ m)]
      · rw [if_neg m, if_neg (by intro y; rcases List.mem_cons.mp y with z | z; exact c z.symm; exact m z)]
theorem ok_check_names {f : Addr} {fd : FuncData} {CI CD : Addr} (F : Fun K "check_names" "check_names" s_check_names f fd) (D_is_name : Df P w K mg base "is_name" 1 ["text"] spIsName) (R_InvalidName : Er P w K mg base "InvalidName" CI) (R_DoubleName : Er P w K mg base "DoubleName" CD) : FnOk P w K mg base (L2.CX P w) 3 f fd ["names"] (spCkNames CI CD) := by
  refine F.okX sc_check_names (fun vs H Q E h => ?_) (fun cdv A outer s H vs Q E hr h => ?_)
  · obtain ⟨a, ss, rfl, _⟩ := h
    rfl
  · obtain ⟨a, ss, rfl, hs, hl, hz, qn, qe⟩ := h
    have hu := hu_of hr
    refine ⟨_, (pss_cons (ps_set (i := 1) sc_check_names.nd rfl (Or.inl rfl) pe_dnewF)
    (pss_one (ps_for (passes_of rfl) rfl (pi_list (pv 0)) (pg_name (i := 2) sc_check_names.nd rfl (Or.inl rfl))
      (pss_cons (ps_if (pt_not (pt_val (pe_df D_is_name (hr.mono (by first | decide | omega)) rfl (pa_cons (pv 2) pa_nil)))) (pss_one (ps_err R_InvalidName rfl (takes_of rfl rfl rfl rfl) (hr.mono (by decide)) rfl (pv 2))) pss_nil)
    (pss_cons (ps_if (pt_cmp (pc_din hu (pv 2) (pv 1))) (pss_one (ps_err R_DoubleName rfl (takes_of rfl rfl rfl rfl) (hr.mono (by decide)) rfl (pv 2))) pss_nil)
    (pss_one (ps_dput hu (pv 1) (pv 2) pe_bl rfl))))))), ?_⟩
    intro d0 H0 hd0 e0 h0
    walk_at "ex"
    refine s_lst (by intro _ q; exact ⟨_, rfl, q⟩) (lstAt_ex e0 hs) (fun i σ' H' => ∃ o2, σ' = [some (.ref a), some (.ref d0), o2] ∧ Evl.Ex H H' ∧ H' d0 = some (.dK ((ss.take i).map fun t => ((Sum.inr t : Key), V.bl true))) ∧ nmErr [] (ss.take i) = none) ⟨none, rfl, e0, h0, rfl⟩ (fun i σ' H' ⟨_, _, e, _⟩ => lstAt_ex e hs) (fun i x σ' H' hx p => ?_) (fun σ' H' p => ?_)
    · obtain ⟨o2, rfl, eH, hd, ne⟩ := p
      obtain ⟨s, hsi, rfl⟩ := map_at hx
      have ms : s ∈ ss := List.mem_of_getElem? hsi
      have hi : i < ss.length := (List.getElem?_eq_some_iff.mp hsi).1
      have at_ := nmErr_at ne (Nat.le_of_lt hi)
      have dr : ss.drop i = s :: ss.drop (i + 1) := by rw [List.drop_eq_getElem_cons hi]; congr 1; exact (List.getElem?_eq_some_iff.mp hsi).2
      rw [dr, List.nil_append] at at_
      have dn : H d0 = none := hd0
      have one : nmErr (ss.take i) (s :: ss.drop (i + 1)) = if isNm s = true then (if s ∈ ss.take i then some (true, s) else nmErr (ss.take i ++ [s]) (ss.drop (i + 1))) else some (false, s) := rfl
      rw [one] at at_
      refine ⟨_, rfl, s, rfl, hz s ms, fun H1 e1 => ⟨_, rfl, ?_⟩⟩
      by_cases c : isNm s = true
      · rw [c]
        refine iteF ⟨_, rfl, _, rfl, _, _, rfl, DGet.k (k := Sum.inr s) (e1 _ _ hd), _, rfl, ?_⟩
        rw [valV_seen]
        rw [if_pos c] at at_
        by_cases m : s ∈ ss.take i
        · rw [if_pos m] at at_ ⊢
          refine iteT ⟨_, rfl, er_done R_DoubleName fun d H2 hd2 e2 h2 => ?_⟩
          exact qe true s d H2 at_ (eH.trans (e1.trans e2)) (Evl.fresh_back (eH.trans e1) hd2) h2
        · rw [if_neg m]
          have lk : ((ss.take i).map fun t => ((Sum.inr t : Key), V.bl true)).length < sizeLine := Evl.sz_lt (by rw [List.length_map, List.length_take]; omega)
          refine iteF ⟨_, rfl, _, rfl, _, _, rfl, DPut.k (k := Sum.inr s) (e1 _ _ hd) lk, ?_⟩
          refine ⟨_, rfl, (eH.trans e1).mut dn, ?_, ?_⟩
          · rw [upd_same, putK_new _ (by rw [valV_seen, if_neg m]), List.take_add_one, hsi, List.map_append]
            rfl
          · rw [List.take_add_one, hsi]
            exact nmErr_snoc ne c (by simpa using m)
      · have c' : isNm s = false := by simpa using c
        rw [c']
        rw [if_neg c] at at_
        refine iteT ⟨_, rfl, er_done R_InvalidName fun d H2 hd2 e2 h2 => ?_⟩
        exact qe false s d H2 at_ (eH.trans (e1.trans e2)) (Evl.fresh_back (eH.trans e1) hd2) h2
    · obtain ⟨o2, rfl, eH, hd, ne⟩ := p
      rw [List.length_map, List.take_length] at ne
      exact qn H' ne eH

/-- the first one that is not known -/
def spCkB (C : Addr) : Sp := fun vs H Q E => ∃ (a b : Addr) (bs ks : List Str), vs = [.ref a, .ref b] ∧ lstAt H a = some (bs.map V.str) ∧ lstAt H b = some (ks.map V.str) ∧ (bs.find? (fun s => !decide (s ∈ ks)) = none → Q .non H) ∧
  ∀ s d H', bs.find? (fun s => !decide (s ∈ ks)) = some s → Evl.Ex H H' → H d = none → H' d = some (.xd [("value", .str s)]) → E (.ref C) (some d) H'
theorem find_at {f : Str → Bool} : ∀ {l : List Str} {i : Nat} {s : Str}, l[i]? = some s → (l.take i).find? f = none → (f s = true → l.find? f = some s) ∧ (f s = false → (l.take (i + 1)).find? f = none)
  | [], i, s, h, _ => by simp at h
  | a :: l, 0, s, h, _ => by
    have e : a = s := by simpa using h
    subst e
    constructor
    · intro c; rw [List.find?_cons, c]
    · intro c; show [a].find? f = none; rw [List.find?_cons, c]; rfl
  | a :: l, i + 1, s, h, n => by
    rw [List.take_succ_cons, List.find?_cons] at n
    cases c : f a with
    | true => rw [c] at n; cases n
    | false =>
      rw [c] at n
      obtain ⟨h1, h2⟩ := find_at (l := l) (i := i) (s := s) (by simpa using h) n
      constructor
      · intro c2; rw [List.find?_cons, c]; exact h1 c2
      · intro c2; rw [List.take_succ_cons, List.find?_cons, c]; exact h2 c2
/-! check_buttons; slots: 0:buttons 1:known 2:button -/
abbrev s_check_buttons : Stmt := top 14
abbrev N_check_buttons : List Str := ["buttons", "known", "button"]
theorem sc_check_buttons : FnScope N_check_buttons ["buttons", "known"] (defScope s_check_buttons) := ⟨rfl, rfl, rfl, by decide +kernel, rfl, by decide +kernel, by decide +kernel⟩
theorem ok_check_buttons {f : Addr} {fd : FuncData} {C : Addr} (F : Fun K "check_buttons" "check_buttons" s_check_buttons f fd) (R_UnknownButton : Er P w K mg base "UnknownButton" C) : FnOk P w K mg base (L2.CX P w) 3 f fd ["buttons", "known"] (spCkB C) := by
  refine F.okX sc_check_buttons (fun vs H Q E h => ?_) (fun cdv A outer s H vs Q E hr h => ?_)
  · obtain ⟨a, b, bs, ks, rfl, _⟩ := h
    rfl
  · obtain ⟨a, b, bs, ks, rfl, ha, hb, qn, qe⟩ := h
    refine ⟨_, (pss_one (ps_for (passes_of rfl) rfl (pi_list (pv 0)) (pg_name (i := 2) sc_check_buttons.nd rfl (Or.inl rfl))
      (pss_one (ps_if (pt_cmpR op_niF (pv 2) (pv 1) rfl) (pss_one (ps_err R_UnknownButton rfl (takes_of rfl rfl rfl rfl) (hr.mono (by decide)) rfl (pv 2))) pss_nil)))), ?_⟩
    refine s_lst (by intro _ q; exact ⟨_, rfl, q⟩) ha (fun i σ' H' => ∃ o2, σ' = [some (.ref a), some (.ref b), o2] ∧ H' = H ∧ (bs.take i).find? (fun s => !decide (s ∈ ks)) = none) ⟨none, rfl, rfl, rfl⟩ (fun i σ' H' ⟨_, _, e, _⟩ => e ▸ ha) (fun i x σ' H' hx p => ?_) (fun σ' H' p => ?_)
    · obtain ⟨o2, rfl, rfl, ne⟩ := p
      obtain ⟨s, hs, rfl⟩ := map_at hx
      obtain ⟨f1, f2⟩ := find_at hs ne
      have fm : List.all (ks.map V.str) flatV = true := flat_str ks
      refine ⟨_, rfl, _, rfl, _, _, rfl, seqAt_of_lst hb, rfl, fm, _, rfl, ?_⟩
      show if (!inV (V.str s) (ks.map V.str)) = true then _ else _
      rw [in_str]
      refine ite2 (fun c => ?_) (fun c => ?_)
      · exact ⟨_, rfl, er_done R_UnknownButton fun d H2 hd e2 h2 => qe s d H2 (f1 c) e2 hd h2⟩
      · exact ⟨_, rfl, rfl, f2 (by simpa using c)⟩
    · obtain ⟨o2, rfl, rfl, ne⟩ := p
      rw [List.length_map, List.take_length] at ne
      exact qn ne
/-! check_lamps; slots: 0:lamps 1:known 2:lamp -/
abbrev s_check_lamps : Stmt := top 15
abbrev N_check_lamps : List Str := ["lamps", "known", "lamp"]
theorem sc_check_lamps : FnScope N_check_lamps ["lamps", "known"] (defScope s_check_lamps) := ⟨rfl, rfl, rfl, by decide +kernel, rfl, by decide +kernel, by decide +kernel⟩
theorem ok_check_lamps {f : Addr} {fd : FuncData} {C : Addr} (F : Fun K "check_lamps" "check_lamps" s_check_lamps f fd) (R_UnknownLamp : Er P w K mg base "UnknownLamp" C) : FnOk P w K mg base (L2.CX P w) 3 f fd ["lamps", "known"] (spCkB C) := by
  refine F.okX sc_check_lamps (fun vs H Q E h => ?_) (fun cdv A outer s H vs Q E hr h => ?_)
  · obtain ⟨a, b, bs, ks, rfl, _⟩ := h
    rfl
  · obtain ⟨a, b, bs, ks, rfl, ha, hb, qn, qe⟩ := h
    refine ⟨_, (pss_one (ps_for (passes_of rfl) rfl (pi_list (pv 0)) (pg_name (i := 2) sc_check_lamps.nd rfl (Or.inl rfl))
      (pss_one (ps_if (pt_cmpR op_niF (pv 2) (pv 1) rfl) (pss_one (ps_err R_UnknownLamp rfl (takes_of rfl rfl rfl rfl) (hr.mono (by decide)) rfl (pv 2))) pss_nil)))), ?_⟩
    refine s_lst (by intro _ q; exact ⟨_, rfl, q⟩) ha (fun i σ' H' => ∃ o2, σ' = [some (.ref a), some (.ref b), o2] ∧ H' = H ∧ (bs.take i).find? (fun s => !decide (s ∈ ks)) = none) ⟨none, rfl, rfl, rfl⟩ (fun i σ' H' ⟨_, _, e, _⟩ => e ▸ ha) (fun i x σ' H' hx p => ?_) (fun σ' H' p => ?_)
    · obtain ⟨o2, rfl, rfl, ne⟩ := p
      obtain ⟨s, hs, rfl⟩ := map_at hx
      obtain ⟨f1, f2⟩ := find_at hs ne
      have fm : List.all (ks.map V.str) flatV = true := flat_str ks
      refine ⟨_, rfl, _, rfl, _, _, rfl, seqAt_of_lst hb, rfl, fm, _, rfl, ?_⟩
      show if (!inV (V.str s) (ks.map V.str)) = true then _ else _
      rw [in_str]
      refine ite2 (fun c => ?_) (fun c => ?_)
      · exact ⟨_, rfl, er_done R_UnknownLamp fun d H2 hd e2 h2 => qe s d H2 (f1 c) e2 hd h2⟩
      · exact ⟨_, rfl, rfl, f2 (by simpa using c)⟩
    · obtain ⟨o2, rfl, rfl, ne⟩ := p
      rw [List.length_map, List.take_length] at ne
      exact qn ne
/-! the steps of a state: name, next state, lamps -/
abbrev Row := List (Str × (Int × List Str))
/-- a step as it is handed in: a tuple of a number and a list -/
def StepAt (H : Hp) (t : Addr) (r : Int × List Str) : Prop := ∃ l, H t = some (.tup [.int r.1, .ref l]) ∧ lstAt H l = some (r.2.map V.str)
def rowKvs (row : Row) (ts : List Addr) : List (Key × V) := List.zipWith (fun r t => ((Sum.inr r.1 : Key), V.ref t)) row ts
def RowAt (H : Hp) (d : Addr) (row : Row) : Prop := ∃ ts : List Addr, H d = some (.dK (rowKvs row ts)) ∧ ts.length = row.length ∧ ∀ (i : Nat) r t, row[i]? = some r → ts[i]? = some t → StepAt H t r.2
theorem StepAt.ex {H H' : Hp} {t : Addr} {r : Int × List Str} (e : Evl.Ex H H') (h : StepAt H t r) : StepAt H' t r := by
  obtain ⟨l, h1, h2⟩ := h
  exact ⟨l, e _ _ h1, lstAt_ex e h2⟩
theorem RowAt.ex {H H' : Hp} {d : Addr} {row : Row} (e : Evl.Ex H H') (h : RowAt H d row) : RowAt H' d row := by
  obtain ⟨ts, h1, h2, h3⟩ := h
  exact ⟨ts, e _ _ h1, h2, fun i r t a b => (h3 i r t a b).ex e⟩
theorem rowKvs_keys : ∀ {row : Row} {ts : List Addr}, ts.length = row.length → (rowKvs row ts).map (·.1) = (row.map (·.1)).map Sum.inr
  | [], [], _ => rfl
  | r :: row, t :: ts, h => by
    show (Sum.inr r.1 : Key) :: (rowKvs row ts).map (·.1) = _
    rw [rowKvs_keys (by simpa using h)]
    rfl
  | [], _ :: _, h => by cases h
  | _ :: _, [], h => by cases h
theorem rowKvs_get : ∀ {row : Row} {ts : List Addr} {i : Nat} {r : Str × (Int × List Str)}, ts.length = row.length → (row.map (·.1)).Nodup → row[i]? = some r → ∃ t, ts[i]? = some t ∧ valV (rowKvs row ts) (Sum.inr r.1) = some (.ref t)
  | [], _, i, r, _, _, h => by simp at h
  | _ :: _, [], _, _, h, _, _ => by cases h
  | a :: row, t :: ts, 0, r, _, _, h => by
    have e : a = r := by simpa using h
    subst e
    exact ⟨t, rfl, valV_pos rfl⟩
  | a :: row, t :: ts, i + 1, r, hl, nd, h => by
    have nd2 := List.nodup_cons.mp nd
    have hr : row[i]? = some r := by simpa using h
    obtain ⟨t2, h1, h2⟩ := rowKvs_get (row := row) (ts := ts) (i := i) (r := r) (by simpa using hl) nd2.2 hr
    refine ⟨t2, by simpa using h1, ?_⟩
    show valV (((Sum.inr a.1 : Key), V.ref t) :: rowKvs row ts) (Sum.inr r.1) = _
    rw [valV_neg (fun z => nd2.1 (by have := Sum.inr.inj z; show a.1 ∈ _; rw [this]; exact List.mem_map.mpr ⟨r, List.mem_of_getElem? hr, rfl⟩))]
    exact h2
theorem lookup_of : ∀ {row : Row} {r : Str × (Int × List Str)}, (row.map (·.1)).Nodup → r ∈ row → row.lookup r.1 = some r.2
  | a :: row, r, nd, m => by
    have nd2 := List.nodup_cons.mp nd
    rcases List.mem_cons.mp m with e | e
    · rw [e]
      simp [List.lookup]
    · have ne : (r.1 == a.1) = false := by
        have : ¬ r.1 = a.1 := fun z => nd2.1 (by show a.1 ∈ _; rw [← z]; exact List.mem_map.mpr ⟨r, e, rfl⟩)
        simpa using this
      obtain ⟨k, v⟩ := a
      simp only [List.lookup, ne]
      exact lookup_of nd2.2 e
inductive SErr | button (s : Str) | step (s : Str) | lamp (s : Str)
/-- the first wrong thing of a state's steps, by the buttons in this order -/
def stErr (bs ls : List Str) (n : Int) (row : Row) : List Str → Option SErr
  | [] => none
  | y :: r => if y ∈ bs then (match row.lookup y with
      | none => stErr bs ls n row r
      | some (a, lit) => if (decide (0 ≤ a) && decide (a < n)) = true then (match lit.find? (fun s => !decide (s ∈ ls)) with
          | some z => some (.lamp z)
          | none => stErr bs ls n row r) else some (.step y)) else some (.button y)
/-- what such an error stores, its class -/
def SErrAt (CB CS CL : Addr) (state : Int) : SErr → Value → Addr → Hp → Prop
  | .button s, cls, d, H => cls = .ref CB ∧ H d = some (.xd [("value", .str s)])
  | .lamp s, cls, d, H => cls = .ref CL ∧ H d = some (.xd [("value", .str s)])
  | .step s, cls, d, H => cls = .ref CS ∧ ∃ t, H d = some (.xd [("value", .ref t)]) ∧ H t = some (.tup [.int state, .str s])
def spCkSteps (CB CS CL : Addr) : Sp := fun vs H Q E => ∃ (a b d : Addr) (bs ls : List Str) (n state : Int) (row : Row), vs = [.ref a, .ref b, .int n, .int state, .ref d] ∧ lstAt H a = some (bs.map V.str) ∧ lstAt H b = some (ls.map V.str) ∧ RowAt H d row ∧ (row.map (·.1)).Nodup ∧ row.length ≤ 60 ∧
  (∀ H', stErr bs ls n row (srt (row.map (·.1))) = none → Evl.Ex H H' → Q .non H') ∧ ∀ x cls d H', stErr bs ls n row (srt (row.map (·.1))) = some x → Evl.Ex H H' → SErrAt CB CS CL state x cls d H' → E cls (some d) H'
/-! check_steps; slots: 0:buttons 1:lamps 2:count 3:state 4:steps 5:button 6:after 7:shining -/
abbrev s_check_steps : Stmt := top 18
abbrev N_check_steps : List Str := ["buttons", "lamps", "count", "state", "steps", "button", "after", "shining"]
theorem sc_check_steps : FnScope N_check_steps ["buttons", "lamps", "count", "state", "steps"] (defScope s_check_steps) := ⟨rfl, rfl, rfl, by decide +kernel, rfl, by decide +kernel, by decide +kernel⟩
theorem ok_check_steps {f : Addr} {fd : FuncData} {CB CS CL : Addr} (F : Fun K "check_steps" "check_steps" s_check_steps f fd) (Z : Bi mg) (D_is_index : Df P w K mg base "is_index" 1 ["number", "count"] spIndex) (D_check_buttons : Dx P w K mg base "check_buttons" 3 ["buttons", "known"] (spCkB CB)) (D_check_lamps : Dx P w K mg base "check_lamps" 3 ["lamps", "known"] (spCkB CL)) (R_InvalidStep : Er P w K mg base "InvalidStep" CS) :
    FnOk P w K mg base (L2.CX P w) 4 f fd ["buttons", "lamps", "count", "state", "steps"] (spCkSteps CB CS CL) := by
  refine F.okX sc_check_steps (fun vs H Q E h => ?_) (fun cdv A outer s H vs Q E hr h => ?_)
  · obtain ⟨a, b, d, bs, ls, n, st, row, rfl, _⟩ := h
    rfl
  · obtain ⟨a, b, d, bs, ls, n, st, row, rfl, ha, hb, hd, nd, hl, q⟩ := h
    have hu := hu_of hr
    refine ⟨_, (pss_one (ps_for (passes_of rfl) rfl (pi_list (pe_callB (call_sortedF rfl) (by rfl) Z.sorted (by decide +kernel) (pa_cons (pv 4) pa_nil))) (pg_name (i := 5) sc_check_steps.nd rfl (Or.inl rfl))
      (pss_cons (ps_expr (pe_dx D_check_buttons (takes_of rfl rfl rfl rfl) (hr.mono (by first | decide | omega)) rfl (pa_cons (pe_lstF (pa_cons (pv 5) pa_nil)) (pa_cons (pv 0) pa_nil))))
    (pss_cons (ps_asg (pe_dget hu (pv 4) (pv 5) (fun _ _ => rfl)) (pg_tup (by rfl) (pgs_cons (pg_name (i := 6) sc_check_steps.nd rfl (Or.inl rfl)) (pgs_cons (pg_name (i := 7) sc_check_steps.nd rfl (Or.inl rfl)) pgs_nil))))
    (pss_cons (ps_if (pt_not (pt_val (pe_df D_is_index (hr.mono (by first | decide | omega)) rfl (pa_cons (pv 6) (pa_cons (pv 2) pa_nil))))) (pss_one (ps_err R_InvalidStep rfl (takes_of rfl rfl rfl rfl) (hr.mono (by decide)) rfl (pe_tupF (pa_cons (pv 3) (pa_cons (pv 5) pa_nil))))) pss_nil)
    (pss_one (ps_expr (pe_dx D_check_lamps (takes_of rfl rfl rfl rfl) (hr.mono (by first | decide | omega)) rfl (pa_cons (pv 7) (pa_cons (pv 1) pa_nil)))))))))), ?_⟩
    refine s_any (fun p xs i σ' H' => ∃ (ys : List Str) (o5 o6 o7 : Option V), xs = ys.map V.str ∧ σ' = [some (.ref a), some (.ref b), some (.int n), some (.int st), some (.ref d), o5, o6, o7] ∧ lstAt H' p = some xs ∧ Evl.Ex H H' ∧ ys.Perm (row.map (·.1)) ∧ PyProof.Rows.sortedS ys = true ∧ stErr bs ls n row ys = stErr bs ls n row (ys.drop i))
      (fun R r => ?_) (fun p xs i σ' H' ⟨_, _, _, _, _, _, h, _⟩ => h) (fun p xs i x σ' H' hx w => ?_) (fun p xs σ' H' w => ?_)
    · obtain ⟨ts, h1, h2, h3⟩ := hd
      exact ⟨_, rfl, _, _, row.map (·.1), rfl, h1, rowKvs_keys h2, by rw [List.length_map]; omega, fun ys p1 p2 p H1 hp e1 h1' => r p _ H1 (lstAt_of h1') ⟨ys, none, none, none, rfl, rfl, lstAt_of h1', e1, p1, p2, rfl⟩⟩
    · obtain ⟨ys, o5, o6, o7, rfl, rfl, hp, eH, p1, p2, same⟩ := w
      obtain ⟨y, hy, rfl⟩ := map_at hx
      rw [← srt_eq p1 p2] at q
      obtain ⟨qn, qe⟩ := q
      have hi : i < ys.length := (List.getElem?_eq_some_iff.mp hy).1
      have my : y ∈ row.map (·.1) := p1.mem_iff.mp (List.mem_of_getElem? hy)
      obtain ⟨⟨y', af, lit⟩, mr, er⟩ := List.mem_map.mp my
      have er' : y' = y := er
      subst er'
      have dr : ys.drop i = y' :: ys.drop (i + 1) := by rw [List.drop_eq_getElem_cons hi]; congr 1; exact (List.getElem?_eq_some_iff.mp hy).2
      obtain ⟨j, hj⟩ := List.getElem?_of_mem mr
      have lk : row.lookup y' = some (af, lit) := lookup_of nd mr
      rw [dr] at same
      have one : stErr bs ls n row (y' :: ys.drop (i + 1)) = if y' ∈ bs then (match row.lookup y' with
        | none => stErr bs ls n row (ys.drop (i + 1))
        | some (a, lit) => if (decide (0 ≤ a) && decide (a < n)) = true then (match lit.find? (fun s => !decide (s ∈ ls)) with
          | some z => some (.lamp z)
          | none => stErr bs ls n row (ys.drop (i + 1))) else some (.step y')) else some (.button y') := rfl
      rw [one, lk] at same
      -- check_buttons([button], buttons)
      refine ⟨_, rfl, Nat.le_of_ble_eq_true rfl, fun p2' H2 hp2 e2 h2 => ⟨_, rfl, _, _, [y'], bs, rfl, lstAt_of h2, lstAt_ex (eH.trans e2) ha, fun ny => ?_, fun s d' H3 ny e3 hd3 h3 => ?_⟩⟩
      · have yb : y' ∈ bs := by
          by_cases c : y' ∈ bs
          · exact c
          · rw [List.find?_cons] at ny
            simp [c] at ny
        rw [if_pos yb] at same
        have e02 := eH.trans e2
        obtain ⟨ts, g1, g2, g3⟩ := hd.ex e02
        obtain ⟨t, k1, k2⟩ := rowKvs_get g2 nd hj
        obtain ⟨l, s1, s2⟩ := g3 j _ t hj k1
        -- after, shining = steps[button]
        refine ⟨_, rfl, _, rfl, _, _, rfl, k2 ▸ DGet.k (k := Sum.inr y') g1, ?_⟩
        refine ⟨_, _, rfl, SqT.of s1, rfl, _, _, rfl, _, _, rfl, rfl, ?_⟩
        -- is_index
        refine ⟨_, rfl, _, rfl, _, _, rfl, _, rfl, ?_⟩
        by_cases c : (decide (0 ≤ af) && decide (af < n)) = true
        · have c2 : (!(decide (0 ≤ af) && decide (af < n))) = false := by rw [c]; rfl
          show if (!(decide (0 ≤ af) && decide (af < n))) = true then _ else _
          rw [c2]
          simp only [c, if_true] at same
          refine iteF ⟨_, rfl, _, rfl, _, _, lit, ls, rfl, s2, lstAt_ex e02 hb, fun nz => ?_, fun z d' H3 nz e3 hd3 h3 => ?_⟩
          · rw [nz] at same
            exact ⟨ys, _, _, _, rfl, rfl, lstAt_ex e2 hp, e02, p1, p2, same⟩
          · rw [nz] at same
            exact qe _ _ _ _ same (e02.trans e3) ⟨rfl, h3⟩
        · have c2 : (!(decide (0 ≤ af) && decide (af < n))) = true := by
            cases q : (decide (0 ≤ af) && decide (af < n)) with
            | true => exact absurd q c
            | false => rfl
          show if (!(decide (0 ≤ af) && decide (af < n))) = true then _ else _
          rw [c2]
          simp only [c, if_false] at same
          refine iteT ⟨_, rfl, _, rfl, Nat.le_of_ble_eq_true rfl, fun T H3 hT e3 h3 => er_done R_InvalidStep fun d' H4 hd4 e4 h4 => ?_⟩
          exact qe _ _ _ _ same (e02.trans (e3.trans e4)) ⟨rfl, T, h4, e4 _ _ h3⟩
      · have yb : y' ∉ bs := by
          intro c
          rw [List.find?_cons] at ny
          simp [c] at ny
        rw [if_neg yb] at same
        have es : s = y' := by
          rw [List.find?_cons] at ny
          simp [yb] at ny
          exact ny.symm
        subst es
        exact qe _ _ _ _ same (eH.trans (e2.trans e3)) ⟨rfl, h3⟩
    · obtain ⟨ys, o5, o6, o7, rfl, rfl, hp, eH, p1, p2, same⟩ := w
      rw [List.length_map, List.drop_length] at same
      rw [← srt_eq p1 p2] at q
      exact q.1 H' same eH

/-- the lamps of a step as a device keeps them -/
def kept (ls : List Str) (r : Int × List Str) : Int × List Str := (r.1, ls.filter fun z => decide (z ∈ r.2))
def KeptAt (H : Hp) (t : Addr) (r : Int × List Str) : Prop := ∃ l, H t = some (.tup [.int r.1, .ref l]) ∧ H l = some (.tup (r.2.map V.str))
def KRowAt (H : Hp) (d : Addr) (row : Row) : Prop := ∃ ts : List Addr, H d = some (.dK (rowKvs row ts)) ∧ ts.length = row.length ∧ ∀ (i : Nat) r t, row[i]? = some r → ts[i]? = some t → KeptAt H t r.2
def keptRow (ls : List Str) (row : Row) : Row := row.map fun r => (r.1, kept ls r.2)
theorem KeptAt.ex {H H' : Hp} {t : Addr} {r : Int × List Str} (e : Evl.Ex H H') (h : KeptAt H t r) : KeptAt H' t r := by
  obtain ⟨l, h1, h2⟩ := h
  exact ⟨l, e _ _ h1, e _ _ h2⟩
theorem KRowAt.ex {H H' : Hp} {d : Addr} {row : Row} (e : Evl.Ex H H') (h : KRowAt H d row) : KRowAt H' d row := by
  obtain ⟨ts, h1, h2, h3⟩ := h
  exact ⟨ts, e _ _ h1, h2, fun i r t a b => (h3 i r t a b).ex e⟩
theorem rowKvs_at : ∀ {row : Row} {ts : List Addr} {i : Nat} {k : Key} {v : V}, ts.length = row.length → (rowKvs row ts)[i]? = some (k, v) → ∃ r t, row[i]? = some r ∧ ts[i]? = some t ∧ k = Sum.inr r.1 ∧ v = .ref t
  | [], _, i, k, v, _, h => by simp [rowKvs] at h
  | _ :: _, [], _, _, _, h, _ => by cases h
  | r :: row, t :: ts, 0, k, v, _, h => by
    have e : ((Sum.inr r.1 : Key), V.ref t) = (k, v) := by simpa [rowKvs] using h
    cases e
    exact ⟨r, t, rfl, rfl, rfl, rfl⟩
  | r :: row, t :: ts, i + 1, k, v, hl, h => rowKvs_at (row := row) (ts := ts) (i := i) (by simpa using hl) (by simpa [rowKvs] using h)
theorem rowKvs_none : ∀ {row : Row} {ts : List Addr} {s : Str}, ts.length = row.length → (∀ x ∈ row, x.1 ≠ s) → valV (rowKvs row ts) (Sum.inr s) = none
  | [], _, _, _, _ => by simp [rowKvs]; rfl
  | _ :: _, [], _, h, _ => by cases h
  | r :: row, t :: ts, s, hl, h => by
    show valV (((Sum.inr r.1 : Key), V.ref t) :: rowKvs row ts) (Sum.inr s) = none
    rw [valV_neg (fun z => h r List.mem_cons_self (Sum.inr.inj z))]
    exact rowKvs_none (by simpa using hl) fun x hx => h x (List.mem_cons_of_mem _ hx)
theorem lstAt_kp {S : Addr → Prop} {H H' : Hp} {a : Addr} {xs : List V} (k : Kp S H H') (n : ¬ S a) (h : lstAt H a = some xs) : lstAt H' a = some xs := by
  unfold lstAt at h ⊢
  cases q : H a with
  | none => rw [q] at h; cases h
  | some o => rw [k a o n q]; rw [q] at h; exact h
theorem lstAt_ne {H : Hp} {a b : Addr} {xs : List V} (h : lstAt H a = some xs) (n : H b = none) : a ≠ b := fun z => by
  unfold lstAt at h
  rw [z, n] at h
  cases h
def spKept : Sp := fun vs H Q _ => ∃ (b d : Addr) (ls : List Str) (row : Row), vs = [.ref b, .ref d] ∧ lstAt H b = some (ls.map V.str) ∧ ls.length ≤ 60 ∧ RowAt H d row ∧ (row.map (·.1)).Nodup ∧ row.length ≤ 60 ∧
  ∀ p H', H p = none → Evl.Ex H H' → KRowAt H' p (keptRow ls row) → Q (.ref p) H'
/-! kept_steps; slots: 0:lamps 1:steps 2:kept 3:button 4:after 5:shining 6:lamp -/
abbrev s_kept_steps : Stmt := top 19
abbrev N_kept_steps : List Str := ["lamps", "steps", "kept", "button", "after", "shining", "lamp"]
theorem sc_kept_steps : FnScope N_kept_steps ["lamps", "steps"] (defScope s_kept_steps) := ⟨rfl, rfl, rfl, by decide +kernel, rfl, by decide +kernel, by decide +kernel⟩
theorem ok_kept_steps {f : Addr} {fd : FuncData} (F : Fun K "kept_steps" "kept_steps" s_kept_steps f fd) (Z : Bi mg) : FnOk P w K mg base CX0 1 f fd ["lamps", "steps"] spKept := by
  refine F.ok sc_kept_steps (fun vs H Q E h => ?_) (fun cdv A outer s H vs Q E hr h => ?_)
  · obtain ⟨b, d, ls, row, rfl, _⟩ := h
    rfl
  · obtain ⟨b, d, ls, row, rfl, hb, hl, hd, nd, hr6, q⟩ := h
    have hu := hu_of hr
    refine ⟨_, (pss_cons (ps_set (i := 2) sc_kept_steps.nd rfl (Or.inl rfl) pe_dnewF)
    (pss_cons (ps_lock (ps_for PassesOwn.never rfl (pi_keys (pv 1)) (pg_name (i := 3) sc_kept_steps.nd rfl (Or.inl rfl))
      (pss_cons (ps_asg (pe_dget hu (pv 1) (pv 3) (fun _ _ => rfl)) (pg_tup (by rfl) (pgs_cons (pg_name (i := 4) sc_kept_steps.nd rfl (Or.inl rfl)) (pgs_cons (pg_name (i := 5) sc_kept_steps.nd rfl (Or.inr rfl)) pgs_nil))))
    (pss_one (ps_dput hu (pv 2) (pv 3) (pe_tupF (pa_cons (pv 4) (pa_cons (pe_callTy call_tupleF (by rfl) Z.tuple (by decide +kernel) (pa_cons (pe_lc (own := [("lamp", 6)]) (by rfl) sc_kept_steps.nd (pi_list (pv 0)) (blkOk_by (own := [("lamp", 6)]) (N := N_kept_steps) (sc := defScope s_kept_steps) (by decide +kernel)) (fun _ _ _ _ _ => (pg_name (i := 6) sc_kept_steps.nd rfl (Or.inl rfl))) (fun _ _ _ _ _ => (pts_one (pt_cmpR op_inF (pv 6) (pv 5) rfl))) (fun _ _ _ _ _ => (pv 6))) pa_nil)) pa_nil))) rfl)))))
    (pss_one (ps_ret (pv 2))))), ?_⟩
    intro kd H0 hkd e0 h0
    obtain ⟨ts, gd, g2, g3⟩ := id hd
    have g1 := e0 _ _ gd
    have hb0 := lstAt_ex e0 hb
    have kd_d : kd ≠ d := fun z => by
      obtain ⟨_, y, _⟩ := hd
      rw [z, y] at hkd
      cases hkd
    have lens : (keptRow ls row).length = row.length := by unfold keptRow; rw [List.length_map]
    walk_at "ex"
    refine s_keys (· = kd) (by intro _ _ q; exact ⟨_, rfl, q⟩) g1 (fun i σ' H' => ∃ (o3 o4 o5 : Option V) (us : List Addr), σ' = [some (.ref b), some (.ref d), some (.ref kd), o3, o4, o5, none] ∧ H' kd = some (.dK (rowKvs ((keptRow ls row).take i) us)) ∧ us.length = ((keptRow ls row).take i).length ∧
      ∀ (j : Nat) r t, ((keptRow ls row).take i)[j]? = some r → us[j]? = some t → KeptAt H' t r.2) (fun od => ⟨none, none, none, [], rfl, by rw [upd_ne kd_d, h0]; rfl, rfl, fun j r t e => by simp at e⟩) (fun od i k v σ' H' hi hk hf w N hN D' hD => ?_) (fun od σ' H' hk hf w => ?_)
    · obtain ⟨o3, o4, o5, us, rfl, hkd', ul, ua⟩ := w
      obtain ⟨r, t, hr, ht, rfl, rfl⟩ := rowKvs_at g2 hi
      obtain ⟨t2, ht2, hv⟩ := rowKvs_get g2 nd hr
      have et : t2 = t := by rw [ht2] at ht; exact Option.some.inj ht
      subst et
      obtain ⟨l, s1o, s2o⟩ := g3 i r t2 hr ht
      have s1 := e0 _ _ s1o
      have s2 := lstAt_ex e0 s2o
      obtain ⟨nm, af, lit⟩ := r
      have ir : i < row.length := (List.getElem?_eq_some_iff.mp hr).1
      have t_d : t2 ≠ d := ne_of s1 g1 (by intro z; cases z)
      have l_d : l ≠ d := fun z => by rw [z] at s2; unfold lstAt at s2; rw [g1] at s2; cases s2
      have b_d : b ≠ d := fun z => by rw [z] at hb0; unfold lstAt at hb0; rw [g1] at hb0; cases hb0
      have s1' := hk _ _ (fun y => y.elim t_d (ne_of_none s1o hkd)) s1
      have s2' : lstAt H' l = some (lit.map V.str) := lstAt_kp hk (fun y => y.elim l_d (lstAt_ne s2o hkd)) s2
      have hb' : lstAt H' b = some (ls.map V.str) := lstAt_kp hk (fun y => y.elim b_d (lstAt_ne hb hkd)) hb0
      refine ⟨_, rfl, _, rfl, _, _, rfl, .inl ⟨_, Sum.inr nm, .inr ⟨od, hf⟩, rfl, hv.symm⟩, ?_⟩
      refine ⟨_, _, rfl, SqT.of s1', rfl, _, _, rfl, _, _, rfl, rfl, ?_⟩
      refine ⟨_, rfl, ?_⟩
      walk_at "ex"
      refine v_lst (a := b) (by intro _ q; exact ⟨_, rfl, q⟩) hb' (by rw [List.length_map]; omega) (fun _ => False) (fun i acc H1' => acc = ((ls.take i).filter (fun z => decide (z ∈ lit))).map V.str) rfl (fun _ y => y.elim) (fun y => y) (fun _ _ _ _ _ _ p => p) (by intro _; rfl) (fun i2 x acc H1' hx kk p Q' h1 h2 => ?_) (fun acc p3 H3 hp3 k3 h3 p => ?_)
      · obtain ⟨z, hz, rfl⟩ := map_at hx
        have et : ls.take (i2 + 1) = ls.take i2 ++ [z] := by rw [List.take_add_one, hz]; rfl
        refine ⟨_, rfl, _, rfl, _, _, rfl, seqAt_of_lst (lstAt_kp kk (fun y => y) s2'), rfl, flat_str _, _, rfl, ?_⟩
        show Q' (inV (V.str z) (lit.map V.str)) _
        rw [in_str]
        by_cases c : z ∈ lit
        · rw [decide_eq_true c]
          refine h2 H1' .refl fun Q'' hq => ⟨_, rfl, hq _ _ .refl ?_⟩
          rw [p, et, List.filter_append, List.filter_cons_of_pos (by simp [c]), List.map_append]
          rfl
        · rw [decide_eq_false c]
          refine h1 H1' .refl ?_
          rw [p, et, List.filter_append, List.filter_cons_of_neg (by simp [c])]
          simp
      · rw [List.length_map, List.take_length] at p
        refine ⟨_, _, rfl, lstAt_of h3, fun T4 H4 hT4 e4 h4 => ?_⟩
        refine ⟨Nat.le_of_ble_eq_true rfl, fun T5 H5 hT5 e5 h5 => ?_⟩
        have e35 : Evl.Ex H' H5 := Evl.Ex.trans (fun a o y => k3 a o (fun z => z) y) (e4.trans e5)
        have hkd5 := e35 _ _ hkd'
        have nxt : (keptRow ls row)[i]? = some (nm, kept ls (af, lit)) := by unfold keptRow; rw [List.getElem?_map, hr]; rfl
        have tk : (keptRow ls row).take (i + 1) = (keptRow ls row).take i ++ [(nm, kept ls (af, lit))] := by rw [List.take_add_one, nxt]; rfl
        have fresh : valV (rowKvs ((keptRow ls row).take i) us) (Sum.inr nm) = none := rowKvs_none ul fun x hx e => by
          obtain ⟨y, hy, ey⟩ := List.mem_map.mp (by unfold keptRow at hx; rw [← List.map_take] at hx; exact hx)
          obtain ⟨j, hj⟩ := List.getElem?_of_mem hy
          have hj2 : j < i := by have := (List.getElem?_eq_some_iff.mp hj).1; rw [List.length_take] at this; omega
          have hj3 : row[j]? = some y := by rw [List.getElem?_take_of_lt hj2] at hj; exact hj
          have := nd_ix nd (i := j) (j := i) (x := nm) (by rw [List.getElem?_map, hj3, ← e, ← ey]; rfl) (by rw [List.getElem?_map, hr]; rfl)
          omega
        have d_kd : d ≠ kd := fun z => kd_d z.symm
        refine ⟨_, rfl, _, rfl, _, _, rfl, DPut.k (k := Sum.inr nm) hkd5 (Evl.sz_lt (by unfold rowKvs; rw [List.length_zipWith, ul, List.length_take, lens]; omega)), ?_⟩
        rw [hD]
        refine hN _ _ ?_ (by rw [upd_ne d_kd]; exact e35 _ _ hf) ⟨_, _, _, us ++ [T5], rfl, ?_, by rw [tk, List.length_append, List.length_append, ul]; rfl, ?_⟩
        · exact fun a o n e => by rw [upd_ne (fun z => n (.inr z))]; exact e35 _ _ e
        · rw [upd_same, putK_new _ fresh, tk]
          unfold rowKvs
          rw [List.zipWith_append ul.symm]
          rfl
        · intro j r t hj hu2
          have T4_kd : T4 ≠ kd := fun z => by rw [z, (Evl.Ex.trans (fun a o y => k3 a o (fun z => z) y) (Evl.Ex.refl H3) : Evl.Ex H' H3) _ _ hkd'] at hT4; cases hT4
          have T5_kd : T5 ≠ kd := fun z => by rw [z, e4 _ _ (k3 _ _ (fun z => z) hkd')] at hT5; cases hT5
          by_cases c : j < us.length
          · rw [List.getElem?_append_left c] at hu2
            rw [tk, List.getElem?_append_left (by omega)] at hj
            obtain ⟨l', k1, k2⟩ := ua j r t hj hu2
            exact ⟨l', by rw [upd_ne (ne_of k1 hkd' (by intro z; cases z))]; exact e35 _ _ k1, by rw [upd_ne (ne_of k2 hkd' (by intro z; cases z))]; exact e35 _ _ k2⟩
          · have lj : j = us.length := by
              have := (List.getElem?_eq_some_iff.mp hu2).1
              rw [List.length_append, List.length_singleton] at this
              omega
            subst lj
            rw [List.getElem?_append_right (Nat.le_refl _), Nat.sub_self] at hu2
            rw [tk, List.getElem?_append_right (by omega), ul, Nat.sub_self] at hj
            have e1 : T5 = t := by simpa using hu2
            have e2 : (nm, kept ls (af, lit)) = r := by simpa using hj
            subst e1
            subst e2
            exact ⟨T4, by rw [upd_ne T5_kd]; exact h5, by rw [upd_ne T4_kd, e5 _ _ h4, p]; rfl⟩
    · obtain ⟨o3, o4, o5, us, rfl, hkd', ul, ua⟩ := w
      have all : (keptRow ls row).take (rowKvs row ts).length = keptRow ls row := by
        rw [List.take_of_length_le]
        unfold rowKvs
        rw [lens, List.length_zipWith]
        omega
      rw [all] at hkd' ul ua
      refine ⟨_, rfl, q kd _ hkd (Kp.unlock e0 gd hk (fun a y => by rw [y]; exact hkd)) ⟨us, by rw [upd_ne kd_d]; exact hkd', ul, fun j r t a b => ?_⟩⟩
      obtain ⟨l, k1, k2⟩ := ua j r t a b
      exact ⟨l, by rw [upd_ne (ne_of k1 hf (by intro z; cases z))]; exact k1, by rw [upd_ne (ne_of k2 hf (by intro z; cases z))]; exact k2⟩
/-! a device -/
inductive DErr | name (b : Bool) (s : Str) | st (i : Nat) (x : SErr)
noncomputable def stsErr (bs ls : List Str) (n : Int) : Nat → List Row → Option DErr
  | _, [] => none
  | i, r :: rs => match stErr bs ls n r (srt (r.map (·.1))) with
    | some x => some (.st i x)
    | none => stsErr bs ls n (i + 1) rs
noncomputable def devErr (bs ls : List Str) (rows : List Row) : Option DErr := match nmErr [] bs with
  | some (b, s) => some (.name b s)
  | none => match nmErr [] ls with
    | some (b, s) => some (.name b s)
    | none => stsErr bs ls rows.length 0 rows
structure Cs where
  (I D B S L : Addr)
def DErrAt (c : Cs) : DErr → Value → Addr → Hp → Prop
  | .name b s, cls, d, H => cls = .ref (if b then c.D else c.I) ∧ H d = some (.xd [("value", .str s)])
  | .st i x, cls, d, H => SErrAt c.B c.S c.L i x cls d H
def devFs (pb pl ps : Addr) : List (Str × V) := [(("_buttons" : Str), .ref pb), (("_lamps" : Str), .ref pl), (("_steps" : Str), .ref ps)]
def DevAt (C : Addr) (H : Hp) (x : Addr) (bs ls : List Str) (rows : List Row) : Prop := ∃ (dx pb pl ps : Addr) (ds : List Addr), H x = some (.ins C dx (devFs pb pl ps)) ∧ H pb = some (.lst (bs.map V.str)) ∧ H pl = some (.lst (ls.map V.str)) ∧ H ps = some (.lst (ds.map V.ref)) ∧
  ds.length = rows.length ∧ ∀ (i : Nat) d r, ds[i]? = some d → rows[i]? = some r → KRowAt H d r
def RowsAt (H : Hp) (a : Addr) (rows : List Row) : Prop := ∃ ds : List Addr, lstAt H a = some (ds.map V.ref) ∧ ds.length = rows.length ∧ ∀ (i : Nat) d r, ds[i]? = some d → rows[i]? = some r → RowAt H d r
theorem RowsAt.ex {H H' : Hp} {a : Addr} {rows : List Row} (e : Evl.Ex H H') (h : RowsAt H a rows) : RowsAt H' a rows := by
  obtain ⟨ds, h1, h2, h3⟩ := h
  exact ⟨ds, lstAt_ex e h1, h2, fun i d r x y => (h3 i d r x y).ex e⟩
structure DevC (K : PySem.W.Frag) (C : Addr) : Prop where
  cl : Cls K C
  nB : NoAttr K C "_buttons"
  nL : NoAttr K C "_lamps"
  nS : NoAttr K C "_steps"
theorem putF2 {a b : V} : putF "_lamps" b (putF "_buttons" a []) = ([(("_buttons" : Str), a), (("_lamps" : Str), b)] : List (Str × V)) := by
  show (if ("_buttons" : Str) = ("_lamps" : Str) then ([(("_buttons" : Str), b)] : List (Str × V)) else (("_buttons" : Str), a) :: ([(("_lamps" : Str), b)] : List (Str × V))) = _
  rw [if_neg (by decide +kernel)]
theorem putF3 {a b c : Addr} : putF "_steps" (.ref c) (putF "_lamps" (.ref b) (putF "_buttons" (.ref a) [])) = devFs a b c := by
  rw [putF2]
  simp only [putF]
  rw [if_neg (by decide +kernel), if_neg (by decide +kernel)]
  rfl
theorem KRowAt.off {H : Hp} {d D : Addr} {row : Row} {xs ys : List V} (h : KRowAt H d row) (hD : H D = some (.lst xs)) : KRowAt (upd H D (.lst ys)) d row := by
  obtain ⟨ts, h1, h2, h3⟩ := h
  refine ⟨ts, by rw [upd_ne (ne_of h1 hD (by intro z; cases z))]; exact h1, h2, fun i r t a b => ?_⟩
  obtain ⟨l, k1, k2⟩ := h3 i r t a b
  exact ⟨l, by rw [upd_ne (ne_of k1 hD (by intro z; cases z))]; exact k1, by rw [upd_ne (ne_of k2 hD (by intro z; cases z))]; exact k2⟩
theorem KRowAt.off_ins {H : Hp} {d D C dx C' dx' : Addr} {row : Row} {fs gs : List (Str × V)} (h : KRowAt H d row) (hD : H D = some (.ins C dx fs)) : KRowAt (upd H D (.ins C' dx' gs)) d row := by
  obtain ⟨ts, h1, h2, h3⟩ := h
  refine ⟨ts, by rw [upd_ne (ne_of h1 hD (by intro z; cases z))]; exact h1, h2, fun i r t a b => ?_⟩
  obtain ⟨l, k1, k2⟩ := h3 i r t a b
  exact ⟨l, by rw [upd_ne (ne_of k1 hD (by intro z; cases z))]; exact k1, by rw [upd_ne (ne_of k2 hD (by intro z; cases z))]; exact k2⟩
/-- all but the instance at x -/
def NotIns : HO → Prop
  | .lst _ => True
  | .tup _ => True
  | .dK _ => True
  | .frz _ (.lst _) => True
  | _ => False
theorem ne_of_ins {H : Hp} {a x C dx : Addr} {fs : List (Str × V)} (ha : ∃ o, H a = some o ∧ NotIns o) (hx : H x = some (.ins C dx fs)) : a ≠ x := fun z => by
  obtain ⟨o, e, n⟩ := ha
  rw [z, hx] at e
  cases e
  exact n
theorem RowAt.kp {S : Addr → Prop} {H H' : Hp} {d : Addr} {row : Row} (h : RowAt H d row) (k : Kp S H H') (n : ∀ a, (∃ o, H a = some o ∧ NotIns o) → ¬ S a) : RowAt H' d row := by
  obtain ⟨ts, h1, h2, h3⟩ := h
  refine ⟨ts, k _ _ (n _ ⟨_, h1, trivial⟩) h1, h2, fun i r t a b => ?_⟩
  obtain ⟨l, k1, k2⟩ := h3 i r t a b
  refine ⟨l, k _ _ (n _ ⟨_, k1, trivial⟩) k1, lstAt_kp k (n _ ?_) k2⟩
  unfold lstAt at k2
  split at k2
  · rename_i ys e; exact ⟨_, e, trivial⟩
  · rename_i o ys e; exact ⟨_, e, trivial⟩
  · cases k2
def spDevI (C : Addr) (c : Cs) : Sp := fun vs H Q E => ∃ (x dx a b g : Addr) (bs ls : List Str) (rows : List Row), vs = [.ref x, .ref a, .ref b, .ref g] ∧ H x = some (.ins C dx []) ∧ lstAt H a = some (bs.map V.str) ∧ lstAt H b = some (ls.map V.str) ∧ RowsAt H g rows ∧ (∀ r ∈ rows, (r.map (·.1)).Nodup ∧ r.length ≤ 60) ∧
  bs.length ≤ 60 ∧ ls.length ≤ 60 ∧ rows.length ≤ 60 ∧ (∀ s ∈ bs, s.length ≤ 1000) ∧ (∀ s ∈ ls, s.length ≤ 1000) ∧
  (∀ H', devErr bs ls rows = none → Kp (· = x) H H' → DevAt C H' x bs ls (rows.map (keptRow ls)) → Q .non H') ∧ ∀ er cls d H', devErr bs ls rows = some er → Evl.Ex H H' → DErrAt c er cls d H' → E cls (some d) H'
/-! Device.__init__; slots: 0:self 1:buttons 2:lamps 3:states 4:state 5:steps -/
abbrev s_Device___init__ : Stmt := inClass (top 17) 0
abbrev N_Device___init__ : List Str := ["self", "buttons", "lamps", "states", "state", "steps"]
theorem sc_Device___init__ : FnScope N_Device___init__ ["self", "buttons", "lamps", "states"] (defScope s_Device___init__) := ⟨rfl, rfl, rfl, by decide +kernel, rfl, by decide +kernel, by decide +kernel⟩
theorem ok_dev_init {f C : Addr} {fd : FuncData} {c : Cs} (F : Fun K "__init__" "Device.__init__" s_Device___init__ f fd) (Z : Bi mg) (T : DevC K C) (D_check_names : Dx P w K mg base "check_names" 3 ["names"] (spCkNames c.I c.D)) (D_check_steps : Dx P w K mg base "check_steps" 4 ["buttons", "lamps", "count", "state", "steps"] (spCkSteps c.B c.S c.L))
    (D_kept_steps : Df P w K mg base "kept_steps" 1 ["lamps", "steps"] spKept) : FnOk P w K mg base (L2.CX P w) 5 f fd ["self", "buttons", "lamps", "states"] (spDevI C c) := by
  refine F.okX sc_Device___init__ (fun vs H Q E h => ?_) (fun cdv A outer s H vs Q E hr h => ?_)
  · obtain ⟨x, dx, a, b, g, bs, ls, rows, rfl, _⟩ := h
    rfl
  · obtain ⟨x, dx, a, b, g, bs, ls, rows, rfl, hx, ha, hb, hg, hrow, l1, l2, l3, z1, z2, qn, qe⟩ := h
    have hu := hu_of hr
    refine ⟨_, (pss_cons (ps_expr (pe_dx D_check_names (takes_of rfl rfl rfl rfl) (hr.mono (by first | decide | omega)) rfl (pa_cons (pv 1) pa_nil)))
    (pss_cons (ps_expr (pe_dx D_check_names (takes_of rfl rfl rfl rfl) (hr.mono (by first | decide | omega)) rfl (pa_cons (pv 2) pa_nil)))
    (pss_cons (ps_for (passes_of rfl) rfl (pi_enum (by rfl) Z.enumerate (pa_cons (pv 3) pa_nil)) (pg_tup (by rfl) (pgs_cons (pg_name (i := 4) sc_Device___init__.nd rfl (Or.inl rfl)) (pgs_cons (pg_name (i := 5) sc_Device___init__.nd rfl (Or.inl rfl)) pgs_nil)))
      (pss_one (ps_expr (pe_dx D_check_steps (takes_of rfl rfl rfl rfl) (hr.mono (by first | decide | omega)) rfl (pa_cons (pv 1) (pa_cons (pv 2) (pa_cons (pe_callB call_lenF (by rfl) Z.len (by decide +kernel) (pa_cons (pv 3) pa_nil)) (pa_cons (pv 4) (pa_cons (pv 5) pa_nil)))))))))
    (pss_cons (ps_fld (pv 0) (pe_callTy call_listF (by rfl) Z.list (by decide +kernel) (pa_cons (pv 1) pa_nil)) rfl)
    (pss_cons (ps_fld (pv 0) (pe_callTy call_listF (by rfl) Z.list (by decide +kernel) (pa_cons (pv 2) pa_nil)) rfl)
    (pss_one (ps_fld (pv 0) (pe_lc (own := [("steps", 5)]) (by rfl) sc_Device___init__.nd (pi_list (pv 3)) (blkOk_by (own := [("steps", 5)]) (N := N_Device___init__) (sc := defScope s_Device___init__) (by decide +kernel)) (fun _ _ _ _ _ => (pg_name (i := 5) sc_Device___init__.nd rfl (Or.inl rfl))) (fun _ _ _ _ _ => pts_nil) (fun _ _ _ _ _ => (pe_df D_kept_steps (hr.mono (by first | decide | omega)) rfl (pa_cons (pv 2) (pa_cons (pv 5) pa_nil))))) rfl))))))), ?_⟩
    refine ⟨_, rfl, a, bs, rfl, ha, by omega, z1, fun H1 n1 e1 => ?_, fun bb s d H1 n1 e1 hd h1 => ?_⟩
    rotate_left
    · exact qe (.name bb s) _ _ _ (by unfold devErr; rw [n1]) e1 ⟨rfl, h1⟩
    refine ⟨_, rfl, b, ls, rfl, lstAt_ex e1 hb, by omega, z2, fun H2 n2 e2 => ?_, fun bb s d H2 n2 e2 hd h2 => ?_⟩
    rotate_left
    · exact qe (.name bb s) _ _ _ (by unfold devErr; rw [n1]; dsimp only; rw [n2]) (e1.trans e2) ⟨rfl, h2⟩
    have de : devErr bs ls rows = stsErr bs ls rows.length 0 rows := by unfold devErr; rw [n1]; dsimp only; rw [n2]
    have e12 := e1.trans e2
    obtain ⟨ds, g1, g2, g3⟩ := hg
    walk_at "ex"
    refine s_enum (by intro _ q; exact ⟨_, rfl, q⟩) (lstAt_ex e12 g1) (fun i σ' H' => ∃ (o4 o5 : Option V), σ' = [some (.ref x), some (.ref a), some (.ref b), some (.ref g), o4, o5] ∧ Evl.Ex H H' ∧ stsErr bs ls rows.length 0 rows = stsErr bs ls rows.length i (rows.drop i)) ⟨none, none, rfl, e12, rfl⟩
      (fun i σ' H' ⟨_, _, _, e, _⟩ => lstAt_ex e g1) (fun i v σ' H' H3 hv w e3 => ?_) (fun σ' H' w => ?_)
    · obtain ⟨o4, o5, rfl, eH, same⟩ := w
      obtain ⟨dd, hdd, rfl⟩ := map_at hv
      have eH3 := eH.trans e3
      have hi : i < rows.length := by rw [← g2]; exact (List.getElem?_eq_some_iff.mp hdd).1
      have hr : rows[i]? = some rows[i] := by simp [hi]
      have mr : rows[i] ∈ rows := List.getElem_mem hi
      rw [List.drop_eq_getElem_cons hi] at same
      have one : stsErr bs ls rows.length i (rows[i] :: rows.drop (i + 1)) = match stErr bs ls rows.length rows[i] (srt (rows[i].map (·.1))) with
        | some x => some (.st i x)
        | none => stsErr bs ls rows.length (i + 1) (rows.drop (i + 1)) := rfl
      rw [one] at same
      have nl : ((ds.map V.ref).length : Int) = (rows.length : Int) := by rw [List.length_map, g2]
      refine ⟨_, rfl, _, rfl, _, rfl, _, _, rfl, seqAt_of_lst (lstAt_ex eH3 g1), _, rfl, _, rfl, ?_⟩
      rw [nl]
      refine ⟨a, b, dd, bs, ls, rows.length, i, rows[i], rfl, lstAt_ex eH3 ha, lstAt_ex eH3 hb, (g3 i dd _ hdd hr).ex eH3, (hrow _ mr).1, (hrow _ mr).2, fun H4 n4 e4 => ?_, fun er cls d H4 n4 e4 h4 => ?_⟩
      · rw [n4] at same
        exact ⟨_, _, rfl, eH3.trans e4, same⟩
      · rw [n4] at same
        exact qe _ _ _ _ (de.trans same) (eH3.trans e4) h4
    · obtain ⟨o4, o5, rfl, eH, same⟩ := w
      rw [List.length_map, g2, List.drop_length] at same
      have dn : devErr bs ls rows = none := de.trans same
      have hx0 := eH _ _ hx
      -- self._buttons = list(buttons)
      refine ⟨_, rfl, _, _, rfl, seqAt_of_lst (lstAt_ex eH ha), fun pb H3 hpb e3 hb3 => ⟨_, rfl, x, C, dx, [], rfl, e3 _ _ hx0, T.cl, T.nB, by decide, ?_⟩⟩
      have x_pb : x ≠ pb := ne_of_none hx0 hpb
      have k3 : Kp (· = x) H (upd H3 x (.ins C dx (putF "_buttons" (.ref pb) []))) := (Kp.of_ex (eH.trans e3)).trans (Kp.at rfl)
      have q1 := upd_same (H := H3) (a := x) (o := .ins C dx (putF "_buttons" (.ref pb) []))
      have q2 : upd H3 x (.ins C dx (putF "_buttons" (.ref pb) [])) pb = some (.lst (bs.map V.str)) := by rw [upd_ne x_pb.symm]; exact hb3
      generalize upd H3 x (.ins C dx (putF "_buttons" (.ref pb) [])) = G3 at k3 q1 q2 ⊢
      have b_x : b ≠ x := fun z => by rw [z] at hb; unfold lstAt at hb; rw [hx] at hb; cases hb
      have g_x : g ≠ x := fun z => by rw [z] at g1; unfold lstAt at g1; rw [hx] at g1; cases g1
      -- self._lamps = list(lamps)
      refine ⟨_, rfl, _, _, rfl, seqAt_of_lst (lstAt_kp k3 b_x hb), fun pl H4 hpl e4 hl4 => ⟨_, rfl, x, C, dx, _, rfl, e4 _ _ q1, T.cl, T.nL, (by decide : 1 < 1000), ?_⟩⟩
      have x_pl : x ≠ pl := ne_of_none q1 hpl
      have k4 : Kp (· = x) H (upd H4 x (.ins C dx (putF "_lamps" (.ref pl) (putF "_buttons" (.ref pb) [])))) := k3.trans ((Kp.of_ex e4).trans (Kp.at rfl))
      have r1 := upd_same (H := H4) (a := x) (o := .ins C dx (putF "_lamps" (.ref pl) (putF "_buttons" (.ref pb) [])))
      have r2 : upd H4 x (.ins C dx (putF "_lamps" (.ref pl) (putF "_buttons" (.ref pb) []))) pb = some (.lst (bs.map V.str)) := by rw [upd_ne x_pb.symm]; exact e4 _ _ q2
      have r3 : upd H4 x (.ins C dx (putF "_lamps" (.ref pl) (putF "_buttons" (.ref pb) []))) pl = some (.lst (ls.map V.str)) := by rw [upd_ne x_pl.symm]; exact hl4
      generalize upd H4 x (.ins C dx (putF "_lamps" (.ref pl) (putF "_buttons" (.ref pb) []))) = G4 at k4 r1 r2 r3 ⊢
      -- self._steps = [..]
      walk_at "ex"
      refine w_lst (by intro _ q; exact ⟨_, rfl, q⟩) (lstAt_kp k4 g_x g1) (by rw [List.length_map]; omega) (fun _ => False) (fun D0 i acc H' => ∃ ks : List Addr, acc = ks.map V.ref ∧ ks.length = i ∧ ∀ (j : Nat) d r, ks[j]? = some d → rows[j]? = some r → KRowAt H' d (keptRow ls r))
        (fun D1 H1 _ _ _ => ⟨[], rfl, rfl, fun j d r e => by simp at e⟩) (fun _ y => y.elim) (fun y => y) (fun D0 i acc H1 xs ys hD h1 ⟨ks, p1, p2, p3⟩ => ⟨ks, p1, p2, fun j d r u v => (p3 j d r u v).off h1⟩) (by intro _; rfl) (fun D0 i v acc H5 hv hD hacc k5 ⟨ks, p1, p2, p3⟩ Q' h1 h2 => ?_) (fun acc ps H5 hps k5 h5 ⟨ks, p1, p2, p3⟩ => ?_)
      · obtain ⟨dd, hdd, rfl⟩ := map_at hv
        have hi : i < rows.length := by rw [← g2]; exact (List.getElem?_eq_some_iff.mp hdd).1
        have hr : rows[i]? = some rows[i] := by simp [hi]
        have mr : rows[i] ∈ rows := List.getElem_mem hi
        have e5 : Kp (· = x) H H5 := k4.trans fun a o _ e => k5 a o (fun y => y) e
        refine h2 H5 .refl fun Q'' hq => ⟨_, rfl, _, rfl, b, dd, ls, rows[i], rfl, lstAt_kp e5 b_x hb, l2, (g3 i dd _ hdd hr).kp e5 (fun a hn => ne_of_ins hn hx), (hrow _ mr).1, (hrow _ mr).2, fun p H6 hp e6 h6 => hq _ _ (.of_ex e6) ⟨ks ++ [p], by rw [p1, List.map_append]; rfl, by rw [List.length_append, p2]; rfl, fun j d r u v => ?_⟩⟩
        by_cases c : j < ks.length
        · rw [List.getElem?_append_left c] at u
          exact (p3 j d r u v).ex e6
        · have lj : j = ks.length := by
            have := (List.getElem?_eq_some_iff.mp u).1
            rw [List.length_append, List.length_singleton] at this
            omega
          subst lj
          rw [List.getElem?_append_right (Nat.le_refl _), Nat.sub_self] at u
          have e1 : p = d := by simpa using u
          rw [p2, hr] at v
          have e2 : rows[i] = r := Option.some.inj v
          rw [← e1, ← e2]
          exact h6
      · have f1 := k5 _ _ (fun y => y) r1
        have x_ps : x ≠ ps := ne_of_none r1 hps
        refine ⟨_, rfl, x, C, dx, _, rfl, f1, T.cl, T.nS, (by rw [putF2]; exact Nat.le_of_ble_eq_true rfl), ?_⟩
        refine qn _ dn (k4.trans (Kp.trans (fun a o _ e => k5 a o (fun y => y) e) (Kp.at rfl))) ⟨dx, pb, pl, ps, ks, ?_, ?_, ?_, ?_, ?_, ?_⟩
        · rw [upd_same, putF3]
        · rw [upd_ne x_pb.symm]; exact k5 _ _ (fun y => y) r2
        · rw [upd_ne x_pl.symm]; exact k5 _ _ (fun y => y) r3
        · rw [upd_ne x_ps.symm, h5, p1]
        · rw [p2, List.length_map, List.length_map, g2]
        · intro j d r u v
          rw [List.getElem?_map] at v
          cases hj : rows[j]? with
          | none => rw [hj] at v; cases v
          | some r0 =>
            rw [hj] at v
            have e : keptRow ls r0 = r := Option.some.inj v
            rw [← e]
            exact (p3 j d r0 u hj).off_ins f1

/-! the properties of a device -/
def spBtn (C : Addr) : Sp := fun vs H Q _ => ∃ (x : Addr) (bs ls : List Str) (rows : List Row), vs = [.ref x] ∧ DevAt C H x bs ls rows ∧ New H (.lst (bs.map V.str)) fun p H1 => Q (.ref p) H1
def spLmp (C : Addr) : Sp := fun vs H Q _ => ∃ (x : Addr) (bs ls : List Str) (rows : List Row), vs = [.ref x] ∧ DevAt C H x bs ls rows ∧ New H (.lst (ls.map V.str)) fun p H1 => Q (.ref p) H1
theorem dev_b {x y z : Addr} : (devFs x y z).lookup ("_buttons" : Str) = some (V.ref x) := by
  simp [devFs]
theorem dev_l {x y z : Addr} : (devFs x y z).lookup ("_lamps" : Str) = some (V.ref y) := by
  unfold devFs
  have h : (("_lamps" : Str) == ("_buttons" : Str)) = false := by decide +kernel
  rw [List.lookup_cons, h]
  simp
theorem dev_s {x y z : Addr} : (devFs x y z).lookup ("_steps" : Str) = some (V.ref z) := by
  unfold devFs
  have h : (("_steps" : Str) == ("_buttons" : Str)) = false := by decide +kernel
  have h2 : (("_steps" : Str) == ("_lamps" : Str)) = false := by decide +kernel
  rw [List.lookup_cons, h]
  dsimp only
  rw [List.lookup_cons, h2]
  simp
/-! Device.buttons; slots: 0:self -/
abbrev s_Device_buttons : Stmt := inClass (top 17) 1
abbrev N_Device_buttons : List Str := ["self"]
theorem sc_Device_buttons : FnScope N_Device_buttons ["self"] (defScope s_Device_buttons) := ⟨rfl, rfl, rfl, by decide +kernel, rfl, by decide +kernel, by decide +kernel⟩
theorem ok_dev_buttons {f C : Addr} {fd : FuncData} (F : Fun K "buttons" "Device.buttons" s_Device_buttons f fd) (Z : Bi mg) (T : DevC K C) : FnOk P w K mg base CX0 1 f fd ["self"] (spBtn C) := by
  refine F.ok sc_Device_buttons (fun vs H Q E h => ?_) (fun cdv A outer s H vs Q E hr h => ?_)
  · obtain ⟨x, bs, ls, rows, rfl, _⟩ := h
    rfl
  · obtain ⟨x, bs, ls, rows, rfl, ⟨dx, pb, pl, ps, ds, h1, h2, h3, h4, h5, h6⟩, q⟩ := h
    refine ⟨_, (pss_one (ps_ret (pe_callTy call_listF (by rfl) Z.list (by decide +kernel) (pa_cons (pe_fld (pv 0) rfl) pa_nil)))), ?_⟩
    exact ⟨_, rfl, x, C, dx, _, _, rfl, h1, T.cl, T.nB, dev_b, _, _, rfl, seqAt_lst h2, q⟩
/-! Device.lamps; slots: 0:self -/
abbrev s_Device_lamps : Stmt := inClass (top 17) 2
abbrev N_Device_lamps : List Str := ["self"]
theorem sc_Device_lamps : FnScope N_Device_lamps ["self"] (defScope s_Device_lamps) := ⟨rfl, rfl, rfl, by decide +kernel, rfl, by decide +kernel, by decide +kernel⟩
theorem ok_dev_lamps {f C : Addr} {fd : FuncData} (F : Fun K "lamps" "Device.lamps" s_Device_lamps f fd) (Z : Bi mg) (T : DevC K C) : FnOk P w K mg base CX0 1 f fd ["self"] (spLmp C) := by
  refine F.ok sc_Device_lamps (fun vs H Q E h => ?_) (fun cdv A outer s H vs Q E hr h => ?_)
  · obtain ⟨x, bs, ls, rows, rfl, _⟩ := h
    rfl
  · obtain ⟨x, bs, ls, rows, rfl, ⟨dx, pb, pl, ps, ds, h1, h2, h3, h4, h5, h6⟩, q⟩ := h
    refine ⟨_, (pss_one (ps_ret (pe_callTy call_listF (by rfl) Z.list (by decide +kernel) (pa_cons (pe_fld (pv 0) rfl) pa_nil)))), ?_⟩
    exact ⟨_, rfl, x, C, dx, _, _, rfl, h1, T.cl, T.nL, dev_l, _, _, rfl, seqAt_lst h3, q⟩
/-! alike -/
theorem kb_bb : kitB "bool" "bool" = some true := by decide +kernel
theorem kb_ib : kitB "int" "bool" = some false := by decide +kernel
theorem kb_sb : kitB "str" "bool" = some false := by decide +kernel
theorem kb_lb : kitB "list" "bool" = some false := by decide +kernel
theorem kb_tb : kitB "tuple" "bool" = some false := by decide +kernel
theorem kb_ii : kitB "int" "int" = some true := by decide +kernel
theorem kb_si : kitB "str" "int" = some false := by decide +kernel
theorem kb_li : kitB "list" "int" = some false := by decide +kernel
theorem kb_ti : kitB "tuple" "int" = some false := by decide +kernel
theorem kb_ss : kitB "str" "str" = some true := by decide +kernel
theorem kb_ls : kitB "list" "str" = some false := by decide +kernel
theorem kb_ts : kitB "tuple" "str" = some false := by decide +kernel
theorem kb_lt : kitB "list" "tuple" = some false := by decide +kernel
theorem kb_tt : kitB "tuple" "tuple" = some true := by decide +kernel
theorem kb_ll : kitB "list" "list" = some true := by decide +kernel
theorem kb_tl : kitB "tuple" "list" = some false := by decide +kernel
def AtomV : V → Prop
  | .non => True
  | .bl _ => True
  | .int _ => True
  | .str _ => True
  | _ => False
/-- two values that hold the same data -/
def AlikeAt : Nat → Hp → V → V → Prop
  | 0, _, x, y => x = y ∧ AtomV x
  | n + 1, H, x, y => (x = y ∧ AtomV x) ∨ ∃ (a b : Addr) (xs ys : List V), x = .ref a ∧ y = .ref b ∧ ((H a = some (.lst xs) ∧ H b = some (.lst ys)) ∨ (H a = some (.tup xs) ∧ H b = some (.tup ys))) ∧ xs.length = ys.length ∧ xs.length ≤ 1000 ∧ ∀ (i : Nat) u v, xs[i]? = some u → ys[i]? = some v → AlikeAt n H u v
def spAlike (n : Nat) : Sp := fun vs H Q _ => ∃ x y : V, vs = [x, y] ∧ AlikeAt n H x y ∧ Q (.bl true) H
theorem tyN_lst {H : Hp} {a : Addr} {xs : List V} (h : H a = some (.lst xs)) : tyN H (.ref a) = some "list" := by show (match H a with | some (.lst _) => some "list" | some (.frz _ (.lst _)) => some "list" | some (.tup _) => some "tuple" | some (.dK _) => some "dict" | _ => none) = _; rw [h]
theorem tyN_tup {H : Hp} {a : Addr} {xs : List V} (h : H a = some (.tup xs)) : tyN H (.ref a) = some "tuple" := by show (match H a with | some (.lst _) => some "list" | some (.frz _ (.lst _)) => some "list" | some (.tup _) => some "tuple" | some (.dK _) => some "dict" | _ => none) = _; rw [h]
def spRec (n : Nat) : Sp := fun vs H Q E => ∃ m, n = m + 1 ∧ spAlike m vs H Q E
theorem alike_at {n : Nat} {H : Hp} {x y : V} (h : AlikeAt n H x y) : (x = y ∧ AtomV x) ∨ ∃ (m : Nat) (a b : Addr) (xs ys : List V), n = m + 1 ∧ x = .ref a ∧ y = .ref b ∧ ((H a = some (.lst xs) ∧ H b = some (.lst ys)) ∨ (H a = some (.tup xs) ∧ H b = some (.tup ys))) ∧ xs.length = ys.length ∧ xs.length ≤ 1000 ∧ ∀ (i : Nat) u v, xs[i]? = some u → ys[i]? = some v → AlikeAt m H u v := by
  cases n with
  | zero => exact .inl h
  | succ m => exact h.elim .inl fun ⟨a, b, xs, ys, h1, h2, h3, h4, h5, h6⟩ => .inr ⟨m, a, b, xs, ys, rfl, h1, h2, h3, h4, h5, h6⟩
/-! _law_alike; slots: 0:_law_found 1:_law_due 2:_law_k -/
abbrev s__law_alike : Stmt := top 25
abbrev N__law_alike : List Str := ["_law_found", "_law_due", "_law_k"]
theorem sc__law_alike : FnScope N__law_alike ["_law_found", "_law_due"] (defScope s__law_alike) := ⟨rfl, rfl, rfl, by decide +kernel, rfl, by decide +kernel, by decide +kernel⟩
theorem ok_alike {f : Addr} {fd : FuncData} (F : Fun K "_law_alike" "_law_alike" s__law_alike f fd) (Z : Bi mg) (n : Nat) (D__law_alike : Df P w K mg base "_law_alike" n ["_law_found", "_law_due"] (spRec n)) : FnOk P w K mg base CX0 (n + 1) f fd ["_law_found", "_law_due"] (spAlike n) := by
  refine F.ok sc__law_alike (fun vs H Q E h => ?_) (fun cdv A outer s H vs Q E hr h => ?_)
  · obtain ⟨x, y, rfl, _⟩ := h
    rfl
  · obtain ⟨x, y, rfl, al, q⟩ := h
    refine ⟨_, (pss_cons (ps_if (pt_cmpR op_isN (pv 1) pe_non (nomark _)) (pss_one (ps_ret (pe_cmpR op_isN (pv 0) pe_non (nomark _)))) pss_nil)
    (pss_cons (ps_if (pt_val (pe_callB call_isN (by rfl) Z.isinstance (by decide +kernel) (pa_cons (pv 1) (pa_cons (pe_bltn (v := .ty "bool") (by rfl) Z.bool PyProof.Rows.boot_bool rfl) pa_nil)))) (pss_one (ps_ret (pe_and (pe_callB call_isN (by rfl) Z.isinstance (by decide +kernel) (pa_cons (pv 0) (pa_cons (pe_bltn (v := .ty "bool") (by rfl) Z.bool PyProof.Rows.boot_bool rfl) pa_nil))) (pe_one (pe_cmpR op_eq (pv 0) (pv 1) (nomark _)))))) pss_nil)
    (pss_cons (ps_if (pt_val (pe_callB call_isN (by rfl) Z.isinstance (by decide +kernel) (pa_cons (pv 1) (pa_cons (pe_bltn (v := .ty "int") (by rfl) Z.int PyProof.Rows.boot_int rfl) pa_nil)))) (pss_one (ps_ret (pe_and (pe_callB call_isN (by rfl) Z.isinstance (by decide +kernel) (pa_cons (pv 0) (pa_cons (pe_bltn (v := .ty "int") (by rfl) Z.int PyProof.Rows.boot_int rfl) pa_nil))) (pe_and (pe_not (pe_callB call_isN (by rfl) Z.isinstance (by decide +kernel) (pa_cons (pv 0) (pa_cons (pe_bltn (v := .ty "bool") (by rfl) Z.bool PyProof.Rows.boot_bool rfl) pa_nil)))) (pe_one (pe_cmpR op_eq (pv 0) (pv 1) (nomark _))))))) pss_nil)
    (pss_cons (ps_if (pt_val (pe_callB call_isN (by rfl) Z.isinstance (by decide +kernel) (pa_cons (pv 1) (pa_cons (pe_bltn (v := .ty "str") (by rfl) Z.str PyProof.Rows.boot_str rfl) pa_nil)))) (pss_one (ps_ret (pe_and (pe_callB call_isN (by rfl) Z.isinstance (by decide +kernel) (pa_cons (pv 0) (pa_cons (pe_bltn (v := .ty "str") (by rfl) Z.str PyProof.Rows.boot_str rfl) pa_nil))) (pe_one (pe_cmpR op_eq (pv 0) (pv 1) (nomark _)))))) pss_nil)
    (pss_cons (ps_if (PW.pt (pw_and (pt_val (pe_callB call_isN (by rfl) Z.isinstance (by decide +kernel) (pa_cons (pv 1) (pa_cons (pe_bltn (v := .ty "tuple") (by rfl) Z.tuple PyProof.Rows.boot_tuple rfl) pa_nil)))) (pw_and1 (pt_not (pt_val (pe_callB call_isN (by rfl) Z.isinstance (by decide +kernel) (pa_cons (pv 0) (pa_cons (pe_bltn (v := .ty "tuple") (by rfl) Z.tuple PyProof.Rows.boot_tuple rfl) pa_nil)))))))) (pss_one (ps_ret pe_bl)) pss_nil)
    (pss_cons (ps_if (PW.pt (pw_and (pt_val (pe_callB call_isN (by rfl) Z.isinstance (by decide +kernel) (pa_cons (pv 1) (pa_cons (pe_bltn (v := .ty "list") (by rfl) Z.list PyProof.Rows.boot_list rfl) pa_nil)))) (pw_and1 (pt_not (pt_val (pe_callB call_isN (by rfl) Z.isinstance (by decide +kernel) (pa_cons (pv 0) (pa_cons (pe_bltn (v := .ty "list") (by rfl) Z.list PyProof.Rows.boot_list rfl) pa_nil)))))))) (pss_one (ps_ret pe_bl)) pss_nil)
    (pss_cons (ps_if (pt_cmpR op_ne (pe_callB call_lenF (by rfl) Z.len (by decide +kernel) (pa_cons (pv 0) pa_nil)) (pe_callB call_lenF (by rfl) Z.len (by decide +kernel) (pa_cons (pv 1) pa_nil)) (nomark _)) (pss_one (ps_ret pe_bl)) pss_nil)
    (pss_cons (ps_for PassesOwn.never rfl (pi_range1 rfl Z.range (pa_cons (pe_callB call_lenF (by rfl) Z.len (by decide +kernel) (pa_cons (pv 1) pa_nil)) pa_nil)) (pg_name (i := 2) sc__law_alike.nd rfl (Or.inl rfl))
      (pss_one (ps_if (pt_not (pt_val (pe_df D__law_alike (hr.mono (by first | decide | omega)) rfl (pa_cons (pe_ix ix_F (pv 0) (pv 2) (fun _ _ => rfl)) (pa_cons (pe_ix ix_F (pv 1) (pv 2) (fun _ _ => rfl)) pa_nil))))) (pss_one (ps_ret pe_bl)) pss_nil)))
    (pss_one (ps_ret pe_bl)))))))))), ?_⟩
    rcases alike_at al with ⟨rfl, at_⟩ | ⟨m, a, b, xs, ys, rfl, rfl, rfl, ht, hl, hb, hc⟩
    · cases x with
      | non =>
        refine ⟨_, rfl, rfl, _, rfl, iteT ?_⟩
        exact ⟨_, rfl, rfl, q⟩
      | bl c =>
        refine ⟨_, rfl, rfl, _, rfl, iteF ?_⟩
        refine ⟨_, rfl, _, _, _, _, rfl, rfl, kb_bb, _, rfl, iteT ?_⟩
        refine ⟨_, rfl, _, _, _, _, rfl, rfl, kb_bb, _, rfl, iteT ?_⟩
        exact ⟨_, rfl, _, rfl, rfl, by rw [decide_eq_true rfl]; exact q⟩
      | int i =>
        refine ⟨_, rfl, rfl, _, rfl, iteF ?_⟩
        refine ⟨_, rfl, _, _, _, _, rfl, rfl, kb_ib, _, rfl, iteF ?_⟩
        refine ⟨_, rfl, _, _, _, _, rfl, rfl, kb_ii, _, rfl, iteT ?_⟩
        refine ⟨_, rfl, _, _, _, _, rfl, rfl, kb_ii, _, rfl, iteT ?_⟩
        refine ⟨_, rfl, _, _, _, _, rfl, rfl, kb_ib, _, rfl, _, rfl, iteT ?_⟩
        exact ⟨_, rfl, _, rfl, rfl, by rw [decide_eq_true rfl]; exact q⟩
      | str z =>
        refine ⟨_, rfl, rfl, _, rfl, iteF ?_⟩
        refine ⟨_, rfl, _, _, _, _, rfl, rfl, kb_sb, _, rfl, iteF ?_⟩
        refine ⟨_, rfl, _, _, _, _, rfl, rfl, kb_si, _, rfl, iteF ?_⟩
        refine ⟨_, rfl, _, _, _, _, rfl, rfl, kb_ss, _, rfl, iteT ?_⟩
        refine ⟨_, rfl, _, _, _, _, rfl, rfl, kb_ss, _, rfl, iteT ?_⟩
        exact ⟨_, rfl, _, rfl, rfl, by rw [decide_eq_true rfl]; exact q⟩
      | _ => exact at_.elim
    · refine ⟨_, rfl, rfl, _, rfl, iteF ?_⟩
      rcases ht with ⟨ha, hb2⟩ | ⟨ha, hb2⟩
      · refine ⟨_, rfl, _, _, _, _, rfl, tyN_lst hb2, kb_lb, _, rfl, iteF ?_⟩
        refine ⟨_, rfl, _, _, _, _, rfl, tyN_lst hb2, kb_li, _, rfl, iteF ?_⟩
        refine ⟨_, rfl, _, _, _, _, rfl, tyN_lst hb2, kb_ls, _, rfl, iteF ?_⟩
        refine ⟨_, rfl, _, _, _, _, rfl, tyN_lst hb2, kb_lt, _, rfl, iteF (iteF ?_)⟩
        refine ⟨_, rfl, _, _, _, _, rfl, tyN_lst hb2, kb_ll, _, rfl, iteT ?_⟩
        refine ⟨_, rfl, _, _, _, _, rfl, tyN_lst ha, kb_ll, _, rfl, iteF ?_⟩
        refine ⟨_, rfl, _, _, rfl, seqAt_lst ha, _, rfl, _, _, rfl, seqAt_lst hb2, rfl, _, rfl, ?_⟩
        rw [hl]
        refine iteNS rfl ?_
        walk_at "ex"
        refine s_rng (n := ys.length) (by intro _ q; exact ⟨_, rfl, _, _, rfl, seqAt_lst hb2, q⟩) (by omega) (fun k σ' H' => ∃ o : Option V, σ' = [some (.ref a), some (.ref b), o] ∧ H' = H) ⟨none, rfl, rfl⟩ (fun k σ' H' hk p => ?_) (fun σ' H' p => ?_)
        · obtain ⟨o, rfl, rfl⟩ := p
          have hk1 : k < xs.length := by omega
          refine ⟨_, rfl, _, rfl, _, _, _, _, rfl, rfl, seqAt_lst ha, atI_nat (List.getElem?_eq_getElem hk1), ?_⟩
          refine ⟨_, rfl, _, rfl, _, _, _, _, rfl, rfl, seqAt_lst hb2, atI_nat (List.getElem?_eq_getElem hk), ?_⟩
          refine ⟨m, rfl, _, _, rfl, hc k _ _ (List.getElem?_eq_getElem hk1) (List.getElem?_eq_getElem hk), _, rfl, iteF ⟨_, rfl, rfl⟩⟩
        · obtain ⟨o, rfl, rfl⟩ := p
          exact q
      · refine ⟨_, rfl, _, _, _, _, rfl, tyN_tup hb2, kb_tb, _, rfl, iteF ?_⟩
        refine ⟨_, rfl, _, _, _, _, rfl, tyN_tup hb2, kb_ti, _, rfl, iteF ?_⟩
        refine ⟨_, rfl, _, _, _, _, rfl, tyN_tup hb2, kb_ts, _, rfl, iteF ?_⟩
        refine ⟨_, rfl, _, _, _, _, rfl, tyN_tup hb2, kb_tt, _, rfl, iteT ?_⟩
        refine ⟨_, rfl, _, _, _, _, rfl, tyN_tup ha, kb_tt, _, rfl, iteF ?_⟩
        refine ⟨_, rfl, _, _, _, _, rfl, tyN_tup hb2, kb_tl, _, rfl, iteF (iteF ?_)⟩
        refine ⟨_, rfl, _, _, rfl, seqAt_tup ha, _, rfl, _, _, rfl, seqAt_tup hb2, rfl, _, rfl, ?_⟩
        rw [hl]
        refine iteNS rfl ?_
        walk_at "ex"
        refine s_rng (n := ys.length) (by intro _ q; exact ⟨_, rfl, _, _, rfl, seqAt_tup hb2, q⟩) (by omega) (fun k σ' H' => ∃ o : Option V, σ' = [some (.ref a), some (.ref b), o] ∧ H' = H) ⟨none, rfl, rfl⟩ (fun k σ' H' hk p => ?_) (fun σ' H' p => ?_)
        · obtain ⟨o, rfl, rfl⟩ := p
          have hk1 : k < xs.length := by omega
          refine ⟨_, rfl, _, rfl, _, _, _, _, rfl, rfl, seqAt_tup ha, atI_nat (List.getElem?_eq_getElem hk1), ?_⟩
          refine ⟨_, rfl, _, rfl, _, _, _, _, rfl, rfl, seqAt_tup hb2, atI_nat (List.getElem?_eq_getElem hk), ?_⟩
          refine ⟨m, rfl, _, _, rfl, hc k _ _ (List.getElem?_eq_getElem hk1) (List.getElem?_eq_getElem hk), _, rfl, iteF ⟨_, rfl, rfl⟩⟩
        · obtain ⟨o, rfl, rfl⟩ := p
          exact q
theorem alike_all {f : Addr} {fd : FuncData} (F : Fun K "_law_alike" "_law_alike" s__law_alike f fd) (Z : Bi mg) (hm : mg "_law_alike" = some (.ref f)) (hb : Binds K fd ["_law_found", "_law_due"] []) : ∀ n, Df P w K mg base "_law_alike" (n + 1) ["_law_found", "_law_due"] (spAlike n)
  | 0 => ⟨f, fd, hm, F.kp, ok_alike F Z 0 ⟨f, fd, hm, F.kp, ⟨fun _ _ _ _ h => (by obtain ⟨_, h, _⟩ := h; cases h), fun _ _ _ _ _ _ _ _ _ _ _ _ _ h => (by obtain ⟨_, h, _⟩ := h; cases h)⟩, hb⟩, hb⟩
  | n + 1 => by
    obtain ⟨f', fd', hm', kp', F', hb'⟩ := alike_all F Z hm hb n
    exact ⟨f, fd, hm, F.kp, ok_alike F Z (n + 1) ⟨f', fd', hm', kp', F'.imp fun vs H Q E ⟨m, e, h⟩ => by cases e; exact h, hb'⟩, hb⟩

/-! texts of few signs -/
theorem asc_name {s : Str} (h : NameOk s) : Asc s := fun c hc => by have := h.2.2 c hc; omega
theorem asc_app {a b : Str} (ha : Asc a) (hb : Asc b) : Asc (a ++ b) := fun c hc => by
  have e : (a ++ b).cps.toList = cd a ++ cd b := cd_app a b
  rw [e] at hc
  exact (List.mem_append.mp hc).elim (ha c) (hb c)
theorem asc_rep {z : Str} {n : Nat} (h : Asc z) : Asc (repS z n) := fun c hc => by
  rw [repS_codes] at hc
  obtain ⟨l, hl, hc⟩ := List.mem_flatten.mp hc
  rw [(List.mem_replicate.mp hl).2] at hc
  exact h c hc
theorem asc_cut {z : Str} {lo hi : Option Int} (h : Asc z) : Asc (cutS z lo hi) := fun c hc => by
  unfold cutS at hc
  rw [List.toList_toArray] at hc
  exact h c (List.mem_of_mem_drop (List.mem_of_mem_take hc))
theorem cut_len (z : Str) (lo hi : Option Int) : (cutS z lo hi).length ≤ z.length := by
  unfold cutS Str.length
  rw [List.size_toArray, List.length_take, List.length_drop, Array.length_toList]
  omega
theorem asc_one {c : Nat} (h : c < 128) : Asc ⟨#[c]⟩ := fun d hd => by
  have : d = c := by simpa using hd
  omega
theorem up_eq {z : Str} (h : Asc z) : Txt.upper z = ⟨z.cps.map PyProof.Rows.up1⟩ := PyProof.Rows.upper_ascii h
theorem asc_up {z : Str} (h : Asc z) : Asc (Txt.upper z) := fun c hc => by
  rw [up_eq h] at hc
  have hc2 : c ∈ z.cps.toList.map PyProof.Rows.up1 := by simpa using hc
  obtain ⟨d, hd, rfl⟩ := List.mem_map.mp hc2
  have := h d hd
  unfold PyProof.Rows.up1
  split <;> omega
theorem up_len {z : Str} (h : Asc z) : (Txt.upper z).length = z.length := by
  rw [up_eq h]
  show (z.cps.map _).size = z.cps.size
  rw [Array.size_map]
theorem src_ne {H : Hp} {p src : Addr} {n : Int} {ss : List Str} (h : lstAt H p = some (ss.map V.str)) (S : Src H src n) : p ≠ src := fun e => by
  obtain ⟨a, b, c, hs, _⟩ := S
  rw [e, lstAt_of hs] at h
  cases ss with
  | nil => simp at h
  | cons s ss => simp at h
def SIGNS : Str := " !\"#$&'()*+,-./0123456789:;<=>?@ABCDEFGHIJKLMNOPQRSTUVWXYZ[\\]^_`{|}~"
theorem signs_len : SIGNS.length ≤ 100000 := by decide +kernel
theorem signs_all : (cd SIGNS).length = 68 ∧ ∀ c ∈ cd SIGNS, c < 128 := by decide +kernel
theorem signs_at {i : Int} (h0 : 0 ≤ i) (h1 : i < 68) : ∃ c, atI SIGNS.cps.toList i = some c ∧ c < 128 := by
  obtain ⟨j, rfl⟩ : ∃ j : Nat, i = (j : Int) := ⟨i.toNat, by omega⟩
  have hj : j < (cd SIGNS).length := by rw [signs_all.1]; omega
  exact ⟨(cd SIGNS)[j], atI_nat (List.getElem?_eq_getElem hj), signs_all.2 _ (List.getElem_mem hj)⟩
theorem str_at {xs : List Str} {r : Int} (h0 : 0 ≤ r) (h1 : r < xs.length) : ∃ z ∈ xs, atI (xs.map V.str) r = some (.str z) := by
  obtain ⟨j, rfl⟩ : ∃ j : Nat, r = (j : Int) := ⟨r.toNat, by omega⟩
  have hj : j < xs.length := by omega
  exact ⟨xs[j], List.getElem_mem hj, atI_nat (by rw [List.getElem?_map, List.getElem?_eq_getElem hj]; rfl)⟩
/-! _law_is_name; slots: 0:_law_word 1:_law_letters 2:_law_sign -/
abbrev s__law_is_name : Stmt := top 28
abbrev N__law_is_name : List Str := ["_law_word", "_law_letters", "_law_sign"]
theorem sc__law_is_name : FnScope N__law_is_name ["_law_word"] (defScope s__law_is_name) := ⟨rfl, rfl, rfl, by decide +kernel, rfl, by decide +kernel, by decide +kernel⟩
theorem ok_law_is_name {f : Addr} {fd : FuncData} (F : Fun K "_law_is_name" "_law_is_name" s__law_is_name f fd) (Z : Bi mg) : FnOk P w K mg base CX0 1 f fd ["_law_word"] spIsName := by
  refine F.ok sc__law_is_name (fun vs H Q E h => ?_) (fun cdv A outer s H vs Q E hr h => ?_)
  · obtain ⟨a, rfl, _⟩ := h
    rfl
  · obtain ⟨z, rfl, hz, q⟩ := h
    refine ⟨_, (pss_cons (ps_setLc (i := 1) (own := [("_law_sign", 2)]) (by rfl) sc__law_is_name.nd rfl rfl (sw_true rfl rfl rfl (by decide +kernel)) (pi_str (pv 0)) (blkOk_by (own := [("_law_sign", 2)]) (N := N__law_is_name) (sc := defScope s__law_is_name) (by decide +kernel)) (fun _ _ _ _ _ => (pg_name (i := 2) sc__law_is_name.nd rfl (Or.inl rfl))) (fun _ _ _ _ _ => (pts_one (pt_cmpR op_in_sign (pv 2) pe_str rfl))) (fun _ _ _ _ _ => (pv 2)))
    (pss_one (ps_ret (pe_and (pe_cmpR op_lt pe_int (pe_callB call_len_str (by rfl) Z.len (by decide +kernel) (pa_cons (pv 0) pa_nil)) (nomark _)) (pe_and (pe_cmpR op_lt (pe_callB call_len_str (by rfl) Z.len (by decide +kernel) (pa_cons (pv 0) pa_nil)) pe_int (nomark _)) (pe_one (pe_cmpR op_eq (pe_callB call_lenF (by rfl) Z.len (by decide +kernel) (pa_cons (pv 1) pa_nil)) (pe_callB call_len_str (by rfl) Z.len (by decide +kernel) (pa_cons (pv 0) pa_nil)) (nomark _)))))))), ?_⟩
    walk_at "ex"
    refine v_str (z := z) (by intro _ q; exact ⟨_, rfl, q⟩) (by omega) (fun _ => False) (fun i acc H' => acc = (((cd z).take i).filter fun c => decide (c ∈ cd ABC)).map fun c => V.str ⟨#[c]⟩) rfl (fun _ y => y.elim) (fun _ _ _ _ _ _ p => p) (by intro _; rfl) (fun i c acc H1' hc kk p Q' h1 h2 => ?_) (fun acc p3 H3 hp3 k3 h3 p => ?_)
    · have et : (cd z).take (i + 1) = (cd z).take i ++ [c] := by rw [List.take_add_one, hc]; rfl
      refine ⟨_, rfl, _, _, rfl, rfl, _, rfl, ?_⟩
      show Q' (decide (c ∈ cd ABC)) _
      by_cases cz : c ∈ cd ABC
      · rw [decide_eq_true cz]
        refine h2 H1' .refl fun Q'' hq => ⟨_, rfl, hq _ _ .refl ?_⟩
        rw [p, et, List.filter_append, List.filter_cons_of_pos (by simp [cz]), List.map_append]
        rfl
      · rw [decide_eq_false cz]
        refine h1 H1' .refl ?_
        rw [p, et, List.filter_append, List.filter_cons_of_neg (by simp [cz])]
        simp
    · rw [len_cd, List.take_length] at p
      have lz : (z.length : Int) = ((cd z).length : Int) := by rw [len_cd]
      have q' := q H3 (fun a o h => k3 a o (fun y => y) h)
      unfold isNm at q'
      refine ⟨_, rfl, _, rfl, Evl.sz_of (by omega), _, _, rfl, rfl, _, rfl, ?_⟩
      rw [lz]
      by_cases c1 : 1 ≤ (cd z).length
      · rw [decide_eq_true (show (0 : Int) < ((cd z).length : Int) by omega)]
        rw [decide_eq_true c1] at q'
        refine iteT ?_
        refine ⟨_, rfl, _, rfl, Evl.sz_of (by omega), _, _, rfl, rfl, _, rfl, ?_⟩
        rw [lz]
        by_cases c2 : (cd z).length ≤ 8
        · rw [decide_eq_true (show ((cd z).length : Int) < 9 by omega)]
          rw [decide_eq_true c2] at q'
          refine iteT ?_
          refine ⟨_, rfl, _, _, rfl, seqAt_lst h3, _, rfl, _, rfl, Evl.sz_of (by omega), rfl, ?_⟩
          rw [p, List.length_map, lz]
          have e : decide (V.int (((cd z).filter fun c => decide (c ∈ cd ABC)).length : Int) = V.int ((cd z).length : Int)) = (cd z).all fun c => decide (c ∈ cd ABC) := by
            rw [Bool.eq_iff_iff, decide_eq_true_eq, List.all_eq_true, ← List.length_filter_eq_length_iff]
            constructor
            · intro h
              injection h with h
              omega
            · intro h
              rw [h]
          rw [e]
          exact q'
        · rw [decide_eq_false (show ¬ ((cd z).length : Int) < 9 by omega)]
          rw [decide_eq_false c2] at q'
          exact q'
      · rw [decide_eq_false (show ¬ (0 : Int) < ((cd z).length : Int) by omega)]
        rw [decide_eq_false c1] at q'
        exact q'
/-! _law_no_name; slots: 0:_law_source_here 1:_law_names_here 2:_law_signs 3:_law_word 4:_law_at 5:_law_sign 6:_law_long -/
abbrev s__law_no_name : Stmt := top 26
abbrev N__law_no_name : List Str := ["_law_source_here", "_law_names_here", "_law_signs", "_law_word", "_law_at", "_law_sign", "_law_long"]
theorem sc__law_no_name : FnScope N__law_no_name ["_law_source_here", "_law_names_here"] (defScope s__law_no_name) := ⟨rfl, rfl, rfl, by decide +kernel, rfl, by decide +kernel, by decide +kernel⟩
def spNoName : Sp := fun vs H Q _ => ∃ (src p : Addr) (n : Int) (names : List Str), vs = [.ref src, .ref p] ∧ lstAt H p = some (names.map V.str) ∧ names.length ≤ 8 ∧ (∀ s ∈ names, NameOk s) ∧ Src H src n ∧ n ≤ 900000 ∧
  ∀ (z : Str) (H' : Hp), Asc z → z.length ≤ 400 → Kp (· = src) H H' → Src H' src (n + 6) → Q (.str z) H'
theorem ok_no_name {f : Addr} {fd : FuncData} (F : Fun K "_law_no_name" "_law_no_name" s__law_no_name f fd) (Z : Bi mg) (D__law_draw : Df P w K mg base "_law_draw" 1 ["_law_source_here", "_law_limit"] spDraw) : FnOk P w K mg base CX0 2 f fd ["_law_source_here", "_law_names_here"] spNoName := by
  refine F.ok sc__law_no_name (fun vs H Q E h => ?_) (fun cdv A outer s H vs Q E hr h => ?_)
  · obtain ⟨src, p, n, names, rfl, _⟩ := h
    rfl
  · obtain ⟨src, p, n, names, rfl, hp, hl, ok, S0, hn, q⟩ := h
    refine ⟨_, (pss_cons (ps_set (i := 2) sc__law_no_name.nd rfl (Or.inl rfl) pe_str)
    (pss_cons (ps_set (i := 3) sc__law_no_name.nd rfl (Or.inl rfl) pe_str)
    (Evl.pss_cut (ps_if (pt_cmpR (op_neN hr.units) (pv 1) (pe_lstF pa_nil) (nomark _)) (pss_cons (ps_set (i := 3) sc__law_no_name.nd rfl (Or.inl rfl) (pe_ix ix_F (pv 1) (pe_df D__law_draw (hr.mono (by first | decide | omega)) rfl (pa_cons (pv 0) (pa_cons (pe_callB call_lenF (by rfl) Z.len (by decide +kernel) (pa_cons (pv 1) pa_nil)) pa_nil))) (fun _ _ => rfl)))
    (pss_one (ps_if (pt_cmpR op_eq (pe_df D__law_draw (hr.mono (by first | decide | omega)) rfl (pa_cons (pv 0) (pa_cons pe_int pa_nil))) pe_int (nomark _)) (pss_one (ps_ret (pv 3))) pss_nil))) pss_nil)
    (pss_cons (ps_set (i := 4) sc__law_no_name.nd rfl (Or.inl rfl) (pe_df D__law_draw (hr.mono (by first | decide | omega)) rfl (pa_cons (pv 0) (pa_cons (pe_op op_add (pe_callB call_len_str (by rfl) Z.len (by decide +kernel) (pa_cons (pv 3) pa_nil)) pe_int) pa_nil))))
    (pss_cons (ps_set (i := 5) sc__law_no_name.nd rfl (Or.inl rfl) (pe_ix ix_SF (pv 2) (pe_df D__law_draw (hr.mono (by first | decide | omega)) rfl (pa_cons (pv 0) (pa_cons pe_int pa_nil))) (fun _ _ => rfl)))
    (pss_cons (ps_set (i := 6) sc__law_no_name.nd rfl (Or.inl rfl) (pe_slice sl_str (pe_op op_mul_si (pv 3) pe_int) po_none (po_some (pe_op op_add pe_int (pe_df D__law_draw (hr.mono (by first | decide | omega)) rfl (pa_cons (pv 0) (pa_cons pe_int pa_nil)))))))
    (pss_one (ps_ret (pe_ix ix_F (pe_lstF (pa_cons pe_str (pa_cons (pv 6) (pa_cons (pe_upper (pv 3)) (pa_cons (pe_op op_add_str (pe_op op_add_str (pe_slice sl_str (pv 3) po_none (po_some (pv 4))) (pv 5)) (pe_slice sl_str (pv 3) (po_some (pv 4)) po_none)) (pa_cons (pv 5) pa_nil)))))) (pe_df D__law_draw (hr.mono (by first | decide | omega)) rfl (pa_cons (pv 0) (pa_cons pe_int pa_nil))) (fun _ _ => rfl)))))))))), ?_⟩
    walk_at "ex"
    refine ⟨fun σ2 H2' => ∃ z : Str, σ2 = [some (.ref src), some (.ref p), some (.str SIGNS), some (.str z), none, none, none] ∧ Kp (· = src) H H2' ∧ Src H2' src (n + 2) ∧ Asc z ∧ z.length ≤ 8, ?_, fun σ2 H2' m => ?_⟩
    · refine ⟨_, rfl, Nat.le_of_ble_eq_true rfl, fun l1 H1 hl1 e1 h1 => ⟨p, l1, names, rfl, rfl, lstAt_ex e1 hp, h1, fun s hs => asc_name (ok s hs), _, rfl, ?_⟩⟩
      have S1 : Src H1 src n := S0.keep fun o h => e1 _ _ h
      cases names with
      | nil => exact iteF ⟨"push", rfl, .of_ex e1, S1.mono (by omega), by unfold Asc; decide +kernel, by decide +kernel⟩
      | cons n0 ns =>
        refine iteT ?_
        have ln : 1 ≤ (n0 :: ns).length := by simp
        generalize n0 :: ns = names at hp hl ok ln
        have hp1 := lstAt_ex e1 hp
        refine ⟨_, rfl, _, rfl, _, rfl, _, _, rfl, seqAt_of_lst hp1, _, _, _, rfl, by rw [List.length_map]; omega, by rw [List.length_map]; omega, S1, by omega, fun r H2 r0 r1 k2 S2 => ?_⟩
        rw [List.length_map] at r1
        obtain ⟨z, mz, hz⟩ := str_at r0 r1
        have p_src := src_ne hp S0
        refine ⟨_, _, _, _, rfl, rfl, seqAt_of_lst (lstAt_kp k2 p_src hp1), hz, ?_⟩
        have oz := ok z mz
        have lz : z.length ≤ 8 := by rw [len_cd]; exact oz.2.1
        refine ⟨_, rfl, _, _, _, rfl, by decide, by decide, S2, by omega, fun r2 H3 r20 r21 k3 S3 => ⟨rfl, _, rfl, ?_⟩⟩
        have k03 := (Kp.of_ex e1).trans (k2.trans k3)
        refine ite2 (fun c => ?_) (fun c => ?_)
        · exact ⟨_, rfl, q z H3 (asc_name oz) (by omega) k03 (S3.mono (by omega))⟩
        · exact ⟨z, rfl, k03, S3.mono (by omega), asc_name oz, lz⟩
    · obtain ⟨z, rfl, k2, S2, az, lz⟩ := m
      -- at, sign
      refine ⟨_, rfl, _, rfl, _, rfl, Evl.sz_of (by omega), _, _, rfl, rfl, _, _, _, rfl, by omega, by omega, S2, by omega, fun at_ H3 at0_ at1_ k3 S3 => ?_⟩
      refine ⟨_, rfl, _, rfl, _, _, _, rfl, by decide, by decide, S3, by omega, fun sg H4 sg0 sg1 k4 S4 => ?_⟩
      obtain ⟨sc, hsc, sc8⟩ := signs_at sg0 sg1
      refine ⟨_, _, _, rfl, rfl, signs_len, hsc, ?_⟩
      -- long
      refine ⟨_, rfl, _, _, rfl, rfl, by decide, by decide, by omega, ?_⟩
      refine ⟨_, rfl, _, _, _, rfl, by decide, by decide, S4, by omega, fun rl H5 rl0 rl1 k5 S5 => ⟨_, _, rfl, rfl, _, rfl, _, rfl, Evl.sz_of (by rw [repS_len]; show 20 * _ ≤ _; omega), ?_⟩⟩
      -- the five texts
      refine ⟨_, rfl, _, rfl, ⟨_, rfl⟩, _, rfl, rfl, by omega, ?_⟩
      refine ⟨_, rfl, _, rfl, _, rfl, _, rfl, Evl.sz_of (by omega), _, rfl, _, _, rfl, rfl, two_len ?_, ?_⟩
      · have := cut_len z none (some at_)
        show (cutS z none (some at_)).length + 1 ≤ _
        omega
      refine ⟨_, rfl, _, rfl, _, rfl, _, rfl, Evl.sz_of (by omega), _, _, rfl, rfl, two_len ?_, ?_⟩
      · have h1 := cut_len z none (some at_)
        have h2 := cut_len z (some at_) none
        rw [app_len]
        show (cutS z none (some at_)).length + 1 + _ ≤ _
        omega
      refine ⟨_, rfl, Nat.le_of_ble_eq_true rfl, fun l6 H6 hl6 e6 h6 => ?_⟩
      have S6 : Src H6 src (n + 5) := (S5.keep fun o h => e6 _ _ h).mono (by omega)
      refine ⟨_, rfl, _, _, _, rfl, by decide, by decide, S6, by omega, fun r H7 r0 r1 k7 S7 => ?_⟩
      have l6s : l6 ≠ src := fun e => src_some S5 (e ▸ hl6)
      have k27 := k2.trans (k3.trans (k4.trans (k5.trans ((Kp.of_ex e6).trans k7))))
      have h7 := k7 _ _ l6s h6
      obtain ⟨y, my, hy⟩ := str_at (xs := ["", cutS (repS z (20 : Int).toNat) none (some (9 + rl)), Txt.upper z, cutS z none (some at_) ++ (⟨#[sc]⟩ : Str) ++ cutS z (some at_) none, ⟨#[sc]⟩]) r0 r1
      refine ⟨_, _, _, _, rfl, rfl, seqAt_lst h7, hy, q y H7 ?_ ?_ k27 (S7.mono (by omega))⟩
      · simp only [List.mem_cons, List.not_mem_nil, or_false] at my
        rcases my with rfl | rfl | rfl | rfl | rfl
        · exact fun c hc => by cases hc
        · exact asc_cut (asc_rep az)
        · exact asc_up az
        · exact asc_app (asc_app (asc_cut az) (asc_one sc8)) (asc_cut az)
        · exact asc_one sc8
      · simp only [List.mem_cons, List.not_mem_nil, or_false] at my
        rcases my with rfl | rfl | rfl | rfl | rfl
        · show 0 ≤ 400; decide
        · have := cut_len (repS z (20 : Int).toNat) none (some (9 + rl))
          rw [repS_len] at this
          have : (20 : Int).toNat * z.length = 20 * z.length := rfl
          omega
        · rw [up_len az]; omega
        · have h1 := cut_len z none (some at_)
          have h2 := cut_len z (some at_) none
          rw [app_len, app_len]
          show (cutS z none (some at_)).length + 1 + _ ≤ _
          omega
        · show 1 ≤ 400; decide

/-! _law_spoilt; slots: 0:_law_source_here 1:_law_names_here 2:_law_some 3:_law_spoil -/
abbrev s__law_spoilt : Stmt := top 27
abbrev N__law_spoilt : List Str := ["_law_source_here", "_law_names_here", "_law_some", "_law_spoil"]
theorem sc__law_spoilt : FnScope N__law_spoilt ["_law_source_here", "_law_names_here"] (defScope s__law_spoilt) := ⟨rfl, rfl, rfl, by decide +kernel, rfl, by decide +kernel, by decide +kernel⟩
def spSpoilt : Sp := fun vs H Q _ => ∃ (src p : Addr) (n : Int) (names : List Str), vs = [.ref src, .ref p] ∧ lstAt H p = some (names.map V.str) ∧ names.length ≤ 8 ∧ (∀ s ∈ names, NameOk s) ∧ Src H src n ∧ n ≤ 800000 ∧
  ∀ (l : Addr) (H' : Hp) (ss : List Str), H l = none → Kp (· = src) H H' → Src H' src (n + 40) → H' l = some (.lst (ss.map V.str)) → ss.length ≤ 11 → (∀ s ∈ ss, Asc s ∧ s.length ≤ 400) → Q (.ref l) H'
theorem ok_spoilt {f : Addr} {fd : FuncData} (F : Fun K "_law_spoilt" "_law_spoilt" s__law_spoilt f fd) (Z : Bi mg) (D__law_draw : Df P w K mg base "_law_draw" 1 ["_law_source_here", "_law_limit"] spDraw) (D__law_no_name : Df P w K mg base "_law_no_name" 2 ["_law_source_here", "_law_names_here"] spNoName) :
    FnOk P w K mg base CX0 3 f fd ["_law_source_here", "_law_names_here"] spSpoilt := by
  refine F.ok sc__law_spoilt (fun vs H Q E h => ?_) (fun cdv A outer s H vs Q E hr h => ?_)
  · obtain ⟨src, p, n, names, rfl, _⟩ := h
    rfl
  · obtain ⟨src, p, n, names, rfl, hp, hl, ok, S0, hn, q⟩ := h
    have p_src := src_ne hp S0
    refine ⟨_, (pss_cons (ps_set (i := 2) sc__law_spoilt.nd rfl (Or.inl rfl) (pe_callTy call_listF (by rfl) Z.list (by decide +kernel) (pa_cons (pv 1) pa_nil)))
    (pss_cons (ps_for PassesOwn.never rfl (pi_range1 rfl Z.range (pa_cons (pe_df D__law_draw (hr.mono (by first | decide | omega)) rfl (pa_cons (pv 0) (pa_cons pe_int pa_nil))) pa_nil)) (pg_name (i := 3) sc__law_spoilt.nd rfl (Or.inl rfl))
      (pss_one (ps_expr (pe_mv 2 PySem.F.slot_list_insert PySem.F.type_list_insert mt_insF (pv 2) (pa_cons (pe_df D__law_draw (hr.mono (by first | decide | omega)) rfl (pa_cons (pv 0) (pa_cons (pe_op op_add (pe_callB call_lenF (by rfl) Z.len (by decide +kernel) (pa_cons (pv 2) pa_nil)) pe_int) pa_nil))) (pa_cons (pe_df D__law_no_name (hr.mono (by first | decide | omega)) rfl (pa_cons (pv 0) (pa_cons (pv 1) pa_nil))) pa_nil))))))
    (pss_one (ps_ret (pv 2))))), ?_⟩
    refine ⟨_, rfl, _, _, rfl, seqAt_of_lst hp, fun l H1 hl0 e1 h1 => ?_⟩
    have S1 : Src H1 src n := S0.keep fun o h => e1 _ _ h
    have l_src : l ≠ src := fun e => src_some S0 (e ▸ hl0)
    simp only [gName_ap]
    show tSeq (tFor _ _ _) _ _ _ _
    refine s_rngD (fun m H2 => m ≤ 3 ∧ Kp (· = src) H1 H2 ∧ Src H2 src (n + 1)) (fun R q => ⟨_, rfl, _, _, _, rfl, by decide, by decide, S1, by omega, fun r H2 r0 r1 k2 S2 => ?_⟩) (fun m i σ' H' => m ≤ 3 ∧ ∃ (o : Option V) (ss : List Str), σ' = [some (.ref src), some (.ref p), some (.ref l), o] ∧ Kp (· = src) H H' ∧ Src H' src (n + 1 + 8 * i) ∧ H' l = some (.lst (ss.map V.str)) ∧ ss.length ≤ 8 + i ∧ ∀ s ∈ ss, Asc s ∧ s.length ≤ 400)
      (fun m H2 a => ⟨a.1, none, names, rfl, (Kp.of_ex e1).trans a.2.1, by simpa using a.2.2, a.2.1 _ _ l_src h1, by omega, fun s hs => ⟨asc_name (ok s hs), by have := (ok s hs).2.1; rw [len_cd]; omega⟩⟩) (fun m i σ' H' hi w => ?_) (fun m σ' H' w => ?_)
    · obtain ⟨j, rfl⟩ : ∃ j : Nat, r = (j : Int) := ⟨r.toNat, by omega⟩
      exact q j H2 (by omega) ⟨by omega, k2, S2⟩
    · obtain ⟨m3, o, ss, rfl, k2, S2, h2, l2, a2⟩ := w
      refine ⟨_, _, rfl, lstAt_of h2, _, rfl, _, rfl, _, _, rfl, seqAt_lst h2, _, _, rfl, rfl, _, _, _, rfl, by rw [List.length_map]; omega, by rw [List.length_map]; omega, S2, by omega, fun r H3 r0 r1 k3 S3 => ?_⟩
      rw [List.length_map] at r1
      obtain ⟨j, rfl⟩ : ∃ j : Nat, r = (j : Int) := ⟨r.toNat, by omega⟩
      have k03 := k2.trans k3
      refine ⟨_, rfl, _, rfl, src, p, _, names, rfl, lstAt_kp k03 p_src hp, hl, ok, S3, by omega, fun z H4 az lz k4 S4 => ?_⟩
      refine ⟨l, _, j, _, rfl, rfl, k4 _ _ l_src (k3 _ _ l_src h2), by rw [List.length_map]; omega, by omega, fun H5 k5 h5 => ?_⟩
      refine ⟨m3, _, ss.take j ++ [z] ++ ss.drop j, rfl, fun a o n e => k5 a o (fun y => by rw [y, hl0] at e; cases e) (k4 _ _ n (k03 _ _ n e)), (S4.keep fun o h => k5 _ _ (fun y => l_src y.symm) h).mono (by omega), ?_, ?_, ?_⟩
      · rw [h5, List.map_append, List.map_append, List.map_take, List.map_drop]
        rfl
      · rw [List.length_append, List.length_append, List.length_take, List.length_drop, List.length_singleton]
        omega
      · intro s hs
        rcases List.mem_append.mp hs with hs | hs
        · rcases List.mem_append.mp hs with hs | hs
          · exact a2 s (List.mem_of_mem_take hs)
          · rw [List.mem_singleton.mp hs]
            exact ⟨az, lz⟩
        · exact a2 s (List.mem_of_mem_drop hs)
    · obtain ⟨m3, o, ss, rfl, k2, S2, h2, l2, a2⟩ := w
      exact ⟨_, rfl, q l H' ss hl0 k2 (S2.mono (by omega)) h2 (by omega) a2⟩
theorem RowAt.one {H : Hp} {d t l : Addr} {nm : Str} {af : Int} {lit : List Str} (h1 : H d = some (.dK [(Sum.inr nm, .ref t)])) (h2 : H t = some (.tup [.int af, .ref l])) (h3 : lstAt H l = some (lit.map V.str)) : RowAt H d [(nm, af, lit)] := by
  refine ⟨[t], h1, rfl, fun i r t' hi ht => ?_⟩
  cases i with
  | zero =>
    have e1 : (nm, af, lit) = r := by simpa using hi
    have e2 : t = t' := by simpa using ht
    subst e1
    subst e2
    exact ⟨l, h2, h3⟩
  | succ i => simp at hi
theorem table_put {H H4 : Hp} {src d t l : Addr} {nm : Str} {af : Int} {lit : List Str} (hd : H d = none) (k : Kp (· = src) H H4) (h1 : H4 d = some (.dK [])) (h2 : H4 t = some (.tup [.int af, .ref l])) (h3 : H4 l = some (.lst (lit.map V.str))) :
    RowAt (upd H4 d (.dK (putK [] (Sum.inr nm) (.ref t)))) d [(nm, af, lit)] ∧ Kp (· = src) H (upd H4 d (.dK (putK [] (Sum.inr nm) (.ref t)))) := by
  refine ⟨RowAt.one (t := t) (l := l) (by rw [upd_same]; rfl) ?_ ?_, k.mut hd⟩
  · rw [upd_ne (ne_of h2 h1 (by intro z; cases z))]; exact h2
  · rw [lstAt_of]
    rw [upd_ne (ne_of h3 h1 (by intro z; cases z))]; exact h3
theorem pm_at {r : Int} (h0 : 0 ≤ r) (h1 : r < 2) : ∃ i : Int, atI [V.int (-1), V.int 1] r = some (.int i) := by
  have h : r = 0 ∨ r = 1 := by omega
  rcases h with rfl | rfl
  · exact ⟨_, rfl⟩
  · exact ⟨_, rfl⟩
/-! _law_table; slots: 0:_law_source_here 1:_law_presses 2:_law_way 3:_law_table_here -/
abbrev s__law_table : Stmt := top 31
abbrev N__law_table : List Str := ["_law_source_here", "_law_presses", "_law_way", "_law_table_here"]
theorem sc__law_table : FnScope N__law_table ["_law_source_here", "_law_presses"] (defScope s__law_table) := ⟨rfl, rfl, rfl, by decide +kernel, rfl, by decide +kernel, by decide +kernel⟩
def spTable : Sp := fun vs H Q _ => ∃ (src p : Addr) (n : Int) (names : List Str), vs = [.ref src, .ref p] ∧ lstAt H p = some (names.map V.str) ∧ (∀ s ∈ names, NameOk s) ∧ Src H src n ∧ n ≤ 900000 ∧
  ∀ (d : Addr) (H' : Hp) (row : Row), H d = none → Kp (· = src) H H' → Src H' src (n + 2) → RowAt H' d row → row.length ≤ 1 → (∀ r ∈ row, r.2.2.length ≤ 1) → Q (.ref d) H'
theorem ok_table {f : Addr} {fd : FuncData} (F : Fun K "_law_table" "_law_table" s__law_table f fd) (Z : Bi mg) (D__law_draw : Df P w K mg base "_law_draw" 1 ["_law_source_here", "_law_limit"] spDraw) :
    FnOk P w K mg base CX0 2 f fd ["_law_source_here", "_law_presses"] spTable := by
  refine F.ok sc__law_table (fun vs H Q E h => ?_) (fun cdv A outer s H vs Q E hr h => ?_)
  · obtain ⟨src, p, n, names, rfl, _⟩ := h
    rfl
  · obtain ⟨src, p, n, names, rfl, hp, ok, S0, hn, q⟩ := h
    have p_src := src_ne hp S0
    have hu := hu_of hr
    refine ⟨_, (pss_cons (ps_set (i := 2) sc__law_table.nd rfl (Or.inl rfl) (pe_df D__law_draw (hr.mono (by first | decide | omega)) rfl (pa_cons (pv 0) (pa_cons pe_int pa_nil))))
    (pss_cons (ps_set (i := 3) sc__law_table.nd rfl (Or.inl rfl) pe_dnewF)
    (pss_cons (ps_if (pt_cmpR op_eq (pv 2) pe_int (nomark _)) (pss_one (ps_dput hu (pv 3) pe_str (pe_tupF (pa_cons pe_int (pa_cons (pe_lstF pa_nil) pa_nil))) rfl)) (pss_one (ps_if (PW.pt (pw_and (pt_cmpR op_eq (pv 2) pe_int (nomark _)) (pw_and1 (pt_cmpR (op_neN hr.units) (pv 1) (pe_lstF pa_nil) (nomark _))))) (pss_one (ps_dput hu (pv 3) (pe_ix ix_F (pv 1) pe_int (fun _ _ => rfl)) (pe_tupF (pa_cons (pe_ix ix_F (pe_lstF (pa_cons (pe_un un_neg pe_int) (pa_cons pe_int pa_nil))) (pe_df D__law_draw (hr.mono (by first | decide | omega)) rfl (pa_cons (pv 0) (pa_cons pe_int pa_nil))) (fun _ _ => rfl)) (pa_cons (pe_lstF pa_nil) pa_nil))) rfl)) (pss_one (ps_if (PW.pt (pw_and (pt_cmpR op_eq (pv 2) pe_int (nomark _)) (pw_and1 (pt_cmpR (op_neN hr.units) (pv 1) (pe_lstF pa_nil) (nomark _))))) (pss_one (ps_dput hu (pv 3) (pe_ix ix_F (pv 1) pe_int (fun _ _ => rfl)) (pe_tupF (pa_cons pe_int (pa_cons (pe_lstF (pa_cons pe_str pa_nil)) pa_nil))) rfl)) pss_nil)))))
    (pss_one (ps_ret (pv 3)))))), ?_⟩
    refine ⟨_, rfl, _, _, _, rfl, by decide, by decide, S0, by omega, fun way H1 w0 w1 k1 S1 => ?_⟩
    refine fun d H2 hd0 e2 h2 => ?_
    have d_src : d ≠ src := fun e => src_some S1 (e ▸ hd0)
    have hdH : H d = none := k1.free d_src hd0
    have k02 : Kp (· = src) H H2 := k1.trans (.of_ex e2)
    have S2 : Src H2 src (n + 1) := S1.keep fun o h => e2 _ _ h
    have hp2 := lstAt_kp k02 p_src hp
    have none_ : ∀ H', Evl.Ex H2 H' → (fun σ' H' => tRet (tVar 3) { nx := fun x H' => Q V.non H', rt := Q } σ' H') [some (.ref src), some (.ref p), some (.int way), some (.ref d)] H' := fun H' e =>
      ⟨_, rfl, q d H' [] hdH (k02.trans (.of_ex e)) ((S2.keep fun o h => e _ _ h).mono (by omega)) ⟨[], e _ _ h2, rfl, fun i r t a b => by cases a⟩ (by decide) (fun r hr => by cases hr)⟩
    refine ⟨_, rfl, rfl, _, rfl, ?_⟩
    refine ite2 (fun c => ?_) (fun c => ?_)
    · refine ⟨Nat.le_of_ble_eq_true rfl, fun l H3 hl e3 h3 => ⟨Nat.le_of_ble_eq_true rfl, fun t H4 ht e4 h4 => ⟨_, rfl, _, _, rfl, DPut.k (k := Sum.inr "nobutton") (e4 _ _ (e3 _ _ h2)) (Evl.sz_lt (by decide)), ?_⟩⟩⟩
      have hh := table_put (nm := "nobutton") (lit := []) hdH (k02.trans (.of_ex (e3.trans e4))) (e4 _ _ (e3 _ _ h2)) h4 (e4 _ _ h3)
      exact ⟨_, rfl, q d _ _ hdH hh.2 ((S2.keep fun o h => by rw [upd_ne d_src.symm]; exact e4 _ _ (e3 _ _ h)).mono (by omega)) hh.1 (Nat.le_refl 1) (fun r hr => by rw [List.mem_singleton.mp hr]; first | exact Nat.zero_le _ | exact Nat.le_refl 1)⟩
    · refine ⟨_, rfl, rfl, _, rfl, ?_⟩
      refine ite2 (fun c2 => ?_) (fun c2 => iteF ?_)
      · refine ⟨_, rfl, Nat.le_of_ble_eq_true rfl, fun l1 H3 hl1 e3 h3 => ⟨p, l1, names, rfl, rfl, lstAt_ex e3 hp2, h3, fun s hs => asc_name (ok s hs), _, rfl, ?_⟩⟩
        have S3 : Src H3 src (n + 1) := S2.keep fun o h => e3 _ _ h
        cases names with
        | nil =>
          refine iteF ?_
          refine ⟨_, rfl, rfl, _, rfl, ?_⟩
          refine ite2 (fun c3 => ?_) (fun c3 => iteF (none_ H3 e3))
          have a1 := int_of c2
          have a2 := int_of c3
          omega
        | cons n0 ns =>
          refine iteT ?_
          refine ⟨_, rfl, Nat.le_of_ble_eq_true rfl, fun l2 H4 hl2 e4 h4 => ?_⟩
          have S4 : Src H4 src (n + 1) := S3.keep fun o h => e4 _ _ h
          have l2_src : l2 ≠ src := fun e => src_some S3 (e ▸ hl2)
          refine ⟨_, rfl, _, _, _, rfl, by decide, by decide, S4, by omega, fun r H5 r0 r1 k5 S5 => ?_⟩
          obtain ⟨i, hi⟩ := pm_at r0 r1
          refine ⟨_, _, _, _, rfl, rfl, seqAt_lst (k5 _ _ l2_src h4), hi, ?_⟩
          refine ⟨Nat.le_of_ble_eq_true rfl, fun l3 H6 hl3 e6 h6 => ⟨Nat.le_of_ble_eq_true rfl, fun t H7 ht e7 h7 => ?_⟩⟩
          have k07 : Kp (· = src) H H7 := (k02.trans (.of_ex (e3.trans e4))).trans (k5.trans (.of_ex (e6.trans e7)))
          have hd7 : H7 d = some (.dK []) := e7 _ _ (e6 _ _ (k5 _ _ d_src (e4 _ _ (e3 _ _ h2))))
          refine ⟨_, rfl, _, rfl, _, _, _, _, rfl, rfl, seqAt_of_lst (lstAt_kp k07 p_src hp), at0, _, _, rfl, DPut.k (k := Sum.inr n0) hd7 (Evl.sz_lt (by decide)), ?_⟩
          have hh := table_put (nm := n0) (lit := []) hdH k07 hd7 h7 (e7 _ _ h6)
          exact ⟨_, rfl, q d _ _ hdH hh.2 ((S5.keep fun o h => by rw [upd_ne d_src.symm]; exact e7 _ _ (e6 _ _ h)).mono (by omega)) hh.1 (Nat.le_refl 1) (fun r hr => by rw [List.mem_singleton.mp hr]; first | exact Nat.zero_le _ | exact Nat.le_refl 1)⟩
      · refine ⟨_, rfl, rfl, _, rfl, ?_⟩
        refine ite2 (fun c3 => ?_) (fun c3 => iteF (none_ H2 (.refl _)))
        · refine ⟨_, rfl, Nat.le_of_ble_eq_true rfl, fun l1 H3 hl1 e3 h3 => ⟨p, l1, names, rfl, rfl, lstAt_ex e3 hp2, h3, fun s hs => asc_name (ok s hs), _, rfl, ?_⟩⟩
          have S3 : Src H3 src (n + 1) := S2.keep fun o h => e3 _ _ h
          cases names with
          | nil => exact iteF (none_ H3 e3)
          | cons n0 ns =>
            refine iteT ?_
            refine ⟨Nat.le_of_ble_eq_true rfl, fun l3 H6 hl3 e6 h6 => ⟨Nat.le_of_ble_eq_true rfl, fun t H7 ht e7 h7 => ?_⟩⟩
            have k07 : Kp (· = src) H H7 := k02.trans (.of_ex (e3.trans (e6.trans e7)))
            have hd7 : H7 d = some (.dK []) := e7 _ _ (e6 _ _ (e3 _ _ h2))
            refine ⟨_, rfl, _, rfl, _, _, _, _, rfl, rfl, seqAt_of_lst (lstAt_kp k07 p_src hp), at0, _, _, rfl, DPut.k (k := Sum.inr n0) hd7 (Evl.sz_lt (by decide)), ?_⟩
            have hh := table_put (nm := n0) (lit := ["nolamp"]) hdH k07 hd7 h7 (e7 _ _ h6)
            exact ⟨_, rfl, q d _ _ hdH hh.2 ((S3.keep fun o h => by rw [upd_ne d_src.symm]; exact e7 _ _ (e6 _ _ h)).mono (by omega)) hh.1 (Nat.le_refl 1) (fun r hr => by rw [List.mem_singleton.mp hr]; first | exact Nat.zero_le _ | exact Nat.le_refl 1)⟩

/-! what the law expects of a device with one state -/
theorem cutV_strs {ss : List Str} {k : Nat} (h : k ≤ ss.length) : cutV (ss.map V.str) none (some ((k : Nat) : Int)) = (ss.take k).map V.str := by
  unfold cutV
  rw [HT.sIx_none, HT.sIx_nat, List.length_map]
  simp only [List.drop_zero, Nat.sub_zero]
  rw [Nat.min_eq_left h, List.map_take]
theorem devErr_one (bs ls : List Str) (row : Row) : devErr bs ls [row] = match nmErr [] bs with
    | some (b, s) => some (.name b s)
    | none => match nmErr [] ls with
      | some (b, s) => some (.name b s)
      | none => match stErr bs ls 1 row (srt (row.map (·.1))) with
        | some x => some (.st 0 x)
        | none => none := rfl
def errName : DErr → Str
  | .name b _ => if b then "DoubleName" else "InvalidName"
  | .st _ (.button _) => "UnknownButton"
  | .st _ (.step _) => "InvalidStep"
  | .st _ (.lamp _) => "UnknownLamp"
def ErrVal (H : Hp) : DErr → V → Prop
  | .name _ s, v => v = .str s
  | .st _ (.button s), v => v = .str s
  | .st i (.step s), v => ∃ t, v = .ref t ∧ H t = some (.tup [.int i, .str s])
  | .st _ (.lamp s), v => v = .str s
def OutOf (H : Hp) (e : Option DErr) (n : Str) (u : V) : Prop := match e with
  | none => n = "" ∧ u = .non
  | some x => n = errName x ∧ ErrVal H x u
def OutAt (H : Hp) (e : Option DErr) (v : V) : Prop := ∃ (t : Addr) (n : Str) (u : V), v = .ref t ∧ H t = some (.tup [.str n, u]) ∧ OutOf H e n u
theorem OutOf.ex {H H' : Hp} {e : Option DErr} {n : Str} {u : V} (x : Evl.Ex H H') (h : OutOf H e n u) : OutOf H' e n u := by
  match e, h with
  | none, h => exact h
  | some (.name _ _), h => exact h
  | some (.st _ (.button _)), h => exact h
  | some (.st _ (.lamp _)), h => exact h
  | some (.st _ (.step _)), ⟨h1, t, h2, h3⟩ => exact ⟨h1, t, h2, x _ _ h3⟩
theorem OutAt.ex {H H' : Hp} {e : Option DErr} {v : V} (x : Evl.Ex H H') (h : OutAt H e v) : OutAt H' e v := by
  obtain ⟨t, n, u, h1, h2, h3⟩ := h
  exact ⟨t, n, u, h1, x _ _ h2, h3.ex x⟩
theorem OutAt.alike {H : Hp} {e : Option DErr} {v w : V} (h : OutAt H e v) (k : OutAt H e w) : AlikeAt 2 H v w := by
  obtain ⟨t, n, u, rfl, h2, h3⟩ := h
  obtain ⟨t', n', u', rfl, k2, k3⟩ := k
  refine .inr ⟨t, t', _, _, rfl, rfl, .inr ⟨h2, k2⟩, rfl, Nat.le_of_ble_eq_true rfl, fun i x y hx hy => ?_⟩
  have hn : n = n' ∧ AlikeAt 1 H u u' := by
    match e, h3, k3 with
    | none, ⟨a, b⟩, ⟨c, d⟩ => exact ⟨a.trans c.symm, .inl ⟨b.trans d.symm, by rw [b]; trivial⟩⟩
    | some (.name _ _), ⟨a, b⟩, ⟨c, d⟩ => exact ⟨a.trans c.symm, .inl ⟨Eq.trans b (Eq.symm d), by rw [show u = _ from b]; trivial⟩⟩
    | some (.st _ (.button _)), ⟨a, b⟩, ⟨c, d⟩ => exact ⟨a.trans c.symm, .inl ⟨Eq.trans b (Eq.symm d), by rw [show u = _ from b]; trivial⟩⟩
    | some (.st _ (.lamp _)), ⟨a, b⟩, ⟨c, d⟩ => exact ⟨a.trans c.symm, .inl ⟨Eq.trans b (Eq.symm d), by rw [show u = _ from b]; trivial⟩⟩
    | some (.st _ (.step _)), ⟨a, p, b, b2⟩, ⟨c, q, d, d2⟩ =>
      refine ⟨a.trans c.symm, .inr ⟨p, q, _, _, b, d, .inr ⟨b2, d2⟩, rfl, Nat.le_of_ble_eq_true rfl, fun i x y hx hy => ?_⟩⟩
      match i, hx, hy with
      | 0, hx, hy => cases hx; cases hy; exact ⟨rfl, trivial⟩
      | 1, hx, hy => cases hx; cases hy; exact ⟨rfl, trivial⟩
      | i + 2, hx, _ => cases hx
  match i, hx, hy with
  | 0, hx, hy => cases hx; cases hy; rw [hn.1]; exact .inl ⟨rfl, trivial⟩
  | 1, hx, hy => cases hx; cases hy; exact hn.2
  | i + 2, hx, _ => cases hx
/-! _law_expected; slots: 0:_law_presses 1:_law_lights 2:_law_table_here 3:_law_names_here 4:_law_at 5:_law_press 6:_law_light -/
abbrev s__law_expected : Stmt := top 29
abbrev N__law_expected : List Str := ["_law_presses", "_law_lights", "_law_table_here", "_law_names_here", "_law_at", "_law_press", "_law_light"]
theorem sc__law_expected : FnScope N__law_expected ["_law_presses", "_law_lights", "_law_table_here"] (defScope s__law_expected) := ⟨rfl, rfl, rfl, by decide +kernel, rfl, by decide +kernel, by decide +kernel⟩
def spExp : Sp := fun vs H Q _ => ∃ (pb pl d : Addr) (bs ls : List Str) (row : Row), vs = [.ref pb, .ref pl, .ref d] ∧ lstAt H pb = some (bs.map V.str) ∧ lstAt H pl = some (ls.map V.str) ∧ RowAt H d row ∧ (row.map (·.1)).Nodup ∧ row.length ≤ 60 ∧
  bs.length ≤ 60 ∧ ls.length ≤ 60 ∧ (∀ s ∈ bs, s.length ≤ 1000) ∧ (∀ s ∈ ls, s.length ≤ 1000) ∧ ∀ v H', Evl.Ex H H' → OutAt H' (devErr bs ls [row]) v → Q v H'
theorem ok_expected {f : Addr} {fd : FuncData} (F : Fun K "_law_expected" "_law_expected" s__law_expected f fd) (Z : Bi mg) (D__law_is_name : Df P w K mg base "_law_is_name" 1 ["_law_word"] spIsName) :
    FnOk P w K mg base CX0 2 f fd ["_law_presses", "_law_lights", "_law_table_here"] spExp := by
  refine F.ok sc__law_expected (fun vs H Q E h => ?_) (fun cdv A outer s H vs Q E hr h => ?_)
  · obtain ⟨pb, pl, d, bs, ls, row, rfl, _⟩ := h
    rfl
  · obtain ⟨pb, pl, d, bs, ls, row, rfl, hb, hl, hd, nd, rl, l1, l2, z1, z2, q⟩ := h
    have hu := hu_of hr
    have one := devErr_one bs ls row
    refine ⟨_, (pss_cons (ps_for PassesOwn.never rfl (pi_list (pe_lstF (pa_cons (pv 0) (pa_cons (pv 1) pa_nil)))) (pg_name (i := 3) sc__law_expected.nd rfl (Or.inl rfl))
      (pss_one (ps_for PassesOwn.never rfl (pi_range1 rfl Z.range (pa_cons (pe_callB call_lenF (by rfl) Z.len (by decide +kernel) (pa_cons (pv 3) pa_nil)) pa_nil)) (pg_name (i := 4) sc__law_expected.nd rfl (Or.inl rfl))
      (pss_cons (ps_if (pt_not (pt_val (pe_df D__law_is_name (hr.mono (by first | decide | omega)) rfl (pa_cons (pe_ix ix_F (pv 3) (pv 4) (fun _ _ => rfl)) pa_nil)))) (pss_one (ps_ret (pe_tupF (pa_cons pe_str (pa_cons (pe_ix ix_F (pv 3) (pv 4) (fun _ _ => rfl)) pa_nil))))) pss_nil)
    (pss_one (ps_if (pt_cmpR op_inF (pe_ix ix_F (pv 3) (pv 4) (fun _ _ => rfl)) (pe_slice sl_F (pv 3) po_none (po_some (pv 4))) rfl) (pss_one (ps_ret (pe_tupF (pa_cons pe_str (pa_cons (pe_ix ix_F (pv 3) (pv 4) (fun _ _ => rfl)) pa_nil))))) pss_nil))))))
    (pss_cons (ps_for PassesOwn.never rfl (pi_list (pe_callB (call_sortedF rfl) (by rfl) Z.sorted (by decide +kernel) (pa_cons (pv 2) pa_nil))) (pg_name (i := 5) sc__law_expected.nd rfl (Or.inl rfl))
      (pss_cons (ps_if (pt_cmpR op_niF (pv 5) (pv 0) rfl) (pss_one (ps_ret (pe_tupF (pa_cons pe_str (pa_cons (pv 5) pa_nil))))) pss_nil)
    (pss_cons (ps_if (pt_cmpR op_ne (pe_ix ix_F (pe_dget hu (pv 2) (pv 5) (fun _ _ => rfl)) pe_int (fun _ _ => rfl)) pe_int (nomark _)) (pss_one (ps_ret (pe_tupF (pa_cons pe_str (pa_cons (pe_tupF (pa_cons pe_int (pa_cons (pv 5) pa_nil))) pa_nil))))) pss_nil)
    (pss_one (ps_for PassesOwn.never rfl (pi_list (pe_ix ix_F (pe_dget hu (pv 2) (pv 5) (fun _ _ => rfl)) pe_int (fun _ _ => rfl))) (pg_name (i := 6) sc__law_expected.nd rfl (Or.inl rfl))
      (pss_one (ps_if (pt_cmpR op_niF (pv 6) (pv 1) rfl) (pss_one (ps_ret (pe_tupF (pa_cons pe_str (pa_cons (pv 6) pa_nil))))) pss_nil)))))))
    (pss_one (ps_ret (pe_tupF (pa_cons pe_str (pa_cons pe_non pa_nil))))))), ?_⟩
    walk_at "ex"
    refine s_new (xs := [.ref pb, .ref pl]) (fun R r => ⟨_, rfl, _, rfl, Nat.le_of_ble_eq_true rfl, fun a H1 ha e1 h1 => r a H1 ha e1 h1⟩) (fun a i σ' H' => ∃ (o3 o4 o5 o6 : Option V), σ' = [some (.ref pb), some (.ref pl), some (.ref d), o3, o4, o5, o6] ∧ Evl.Ex H H' ∧ H' a = some (.lst [.ref pb, .ref pl]) ∧ (0 < i → nmErr [] bs = none) ∧ (1 < i → nmErr [] ls = none))
      (fun a H1 ha e1 h1 => ⟨none, none, none, none, rfl, e1, h1, fun z => absurd z (Nat.lt_irrefl _), fun z => absurd z (by decide)⟩) (fun a i σ' H' ⟨_, _, _, _, _, _, h, _⟩ => lstAt_of h) (fun a i x σ' H' hx w => ?_) (fun a σ' H' w => ?_)
    · obtain ⟨o3, o4, o5, o6, rfl, eH, ha, n1, n2⟩ := w
      obtain ⟨c, ss, rfl, hc, lc, zc, bad, good⟩ : ∃ (c : Addr) (ss : List Str), x = .ref c ∧ lstAt H c = some (ss.map V.str) ∧ ss.length ≤ 60 ∧ (∀ s ∈ ss, s.length ≤ 1000) ∧ (∀ b s, nmErr [] ss = some (b, s) → devErr bs ls [row] = some (.name b s)) ∧ (nmErr [] ss = none → (0 < i + 1 → nmErr [] bs = none) ∧ (1 < i + 1 → nmErr [] ls = none)) := by
        match i, hx with
        | 0, hx =>
          cases hx
          exact ⟨pb, bs, rfl, hb, l1, z1, fun b s n => by rw [one, n], fun n => ⟨fun _ => n, fun z => absurd z (Nat.lt_irrefl _)⟩⟩
        | 1, hx =>
          cases hx
          have nb := n1 (by decide)
          exact ⟨pl, ls, rfl, hl, l2, z2, fun b s n => by rw [one, nb]; dsimp only; rw [n], fun n => ⟨fun _ => nb, fun _ => n⟩⟩
        | i + 2, hx => cases hx
      have hc1 := lstAt_ex eH hc
      walk_at "ex"
      refine s_rng (n := ss.length) (by intro _ q; exact ⟨_, rfl, _, _, rfl, seqAt_of_lst hc1, by rw [List.length_map]; exact q⟩) (by omega) (fun k σ' H2 => ∃ (o4 : Option V), σ' = [some (.ref pb), some (.ref pl), some (.ref d), some (.ref c), o4, o5, o6] ∧ Evl.Ex H' H2 ∧ nmErr [] (ss.take k) = none) ⟨o4, rfl, .refl _, rfl⟩ (fun k σ' H2 hk p => ?_) (fun σ' H2 p => ?_)
      · obtain ⟨o4, rfl, e2, nk⟩ := p
        have hc2 := lstAt_ex e2 hc1
        have hsk : ss[k]? = some ss[k] := List.getElem?_eq_getElem hk
        have ms : ss[k] ∈ ss := List.getElem_mem hk
        have at_ := nmErr_at nk (Nat.le_of_lt hk)
        rw [List.nil_append, List.drop_eq_getElem_cons hk] at at_
        have stp : nmErr (ss.take k) (ss[k] :: ss.drop (k + 1)) = if isNm ss[k] = true then (if ss[k] ∈ ss.take k then some (true, ss[k]) else nmErr (ss.take k ++ [ss[k]]) (ss.drop (k + 1))) else some (false, ss[k]) := rfl
        rw [stp] at at_
        have ix : atI (ss.map V.str) (k : Int) = some (.str ss[k]) := atI_nat (by rw [List.getElem?_map, hsk]; rfl)
        refine ⟨_, rfl, _, rfl, _, _, _, _, rfl, rfl, seqAt_of_lst hc2, ix, ?_⟩
        refine ⟨_, rfl, zc _ ms, fun H3 e3 => ⟨_, rfl, ?_⟩⟩
        have hc3 := lstAt_ex e3 hc2
        by_cases c1 : isNm ss[k] = true
        · rw [c1]
          rw [if_pos c1] at at_
          refine iteF ?_
          refine ⟨_, rfl, _, rfl, _, _, _, _, rfl, rfl, seqAt_of_lst hc3, ix, ?_⟩
          refine ⟨_, rfl, _, rfl, _, rfl, _, _, rfl, hc3, fun p4 H4 hp4 e4 h4 => ?_⟩
          rw [cutV_strs (Nat.le_of_lt hk)] at h4
          refine ⟨p4, _, rfl, seqAt_lst h4, rfl, flat_str _, _, rfl, ?_⟩
          have e04 := e2.trans (e3.trans e4)
          show if (inV (V.str ss[k]) ((ss.take k).map V.str)) = true then _ else _
          rw [in_str]
          by_cases m : ss[k] ∈ ss.take k
          · rw [if_pos m] at at_
            rw [decide_eq_true m]
            refine iteT ?_
            refine ⟨_, rfl, _, rfl, _, _, _, _, rfl, rfl, seqAt_of_lst (lstAt_ex e4 hc3), ix, Nat.le_of_ble_eq_true rfl, fun t H5 ht e5 h5 => ?_⟩
            refine q _ _ (eH.trans (e04.trans e5)) ?_
            rw [bad _ _ at_]
            exact ⟨t, _, _, rfl, h5, rfl, rfl⟩
          · rw [decide_eq_false m]
            refine iteF ⟨_, rfl, e04, ?_⟩
            rw [List.take_add_one, hsk]
            exact nmErr_snoc nk c1 (by simpa using m)
        · have c' : isNm ss[k] = false := by simpa using c1
          rw [c']
          rw [if_neg c1] at at_
          refine iteT ?_
          refine ⟨_, rfl, _, rfl, _, _, _, _, rfl, rfl, seqAt_of_lst hc3, ix, Nat.le_of_ble_eq_true rfl, fun t H5 ht e5 h5 => ?_⟩
          refine q _ _ (eH.trans (e2.trans (e3.trans e5))) ?_
          rw [bad _ _ at_]
          exact ⟨t, _, _, rfl, h5, rfl, rfl⟩
      · obtain ⟨o4, rfl, e2, nk⟩ := p
        rw [List.take_length] at nk
        exact ⟨_, _, _, _, rfl, eH.trans e2, e2 _ _ ha, good nk⟩
    · obtain ⟨o3, o4, o5, o6, rfl, eH, ha, n1, n2⟩ := w
      have nb := n1 (Nat.zero_lt_two)
      have nl := n2 (Nat.one_lt_two)
      rw [nb] at one
      dsimp only at one
      rw [nl] at one
      dsimp only at one
      walk_at "ex"
      refine s_any (fun p xs i σ' H2 => ∃ (ys : List Str) (o5 o6 : Option V), xs = ys.map V.str ∧ σ' = [some (.ref pb), some (.ref pl), some (.ref d), o3, o4, o5, o6] ∧ lstAt H2 p = some xs ∧ Evl.Ex H H2 ∧ ys.Perm (row.map (·.1)) ∧ PyProof.Rows.sortedS ys = true ∧ stErr bs ls 1 row ys = stErr bs ls 1 row (ys.drop i))
        (fun R r => ?_) (fun p xs i σ' H2 ⟨_, _, _, _, _, h, _⟩ => h) (fun p xs i x σ' H2 hx w => ?_) (fun p xs σ' H2 w => ?_)
      · obtain ⟨ts, h1, h2, h3⟩ := hd.ex eH
        exact ⟨_, rfl, _, _, row.map (·.1), rfl, h1, rowKvs_keys h2, by rw [List.length_map]; omega, fun ys p1 p2 p H1 hp e1 h1' => r p _ H1 (lstAt_of h1') ⟨ys, o5, o6, rfl, rfl, lstAt_of h1', eH.trans e1, p1, p2, rfl⟩⟩
      · obtain ⟨ys, o5, o6, rfl, rfl, hp, e2, p1, p2, same⟩ := w
        obtain ⟨y, hy, rfl⟩ := map_at hx
        rw [← srt_eq p1 p2] at one
        have hi : i < ys.length := (List.getElem?_eq_some_iff.mp hy).1
        have my : y ∈ row.map (·.1) := p1.mem_iff.mp (List.mem_of_getElem? hy)
        obtain ⟨⟨y', af, lit⟩, mr, er⟩ := List.mem_map.mp my
        have er' : y' = y := er
        subst er'
        have dr : ys.drop i = y' :: ys.drop (i + 1) := by rw [List.drop_eq_getElem_cons hi]; congr 1; exact (List.getElem?_eq_some_iff.mp hy).2
        obtain ⟨j, hj⟩ := List.getElem?_of_mem mr
        have lk : row.lookup y' = some (af, lit) := lookup_of nd mr
        rw [dr] at same
        have stp : stErr bs ls 1 row (y' :: ys.drop (i + 1)) = if y' ∈ bs then (match row.lookup y' with
          | none => stErr bs ls 1 row (ys.drop (i + 1))
          | some (a, lit) => if (decide (0 ≤ a) && decide (a < 1)) = true then (match lit.find? (fun s => !decide (s ∈ ls)) with
            | some z => some (.lamp z)
            | none => stErr bs ls 1 row (ys.drop (i + 1))) else some (.step y')) else some (.button y') := rfl
        rw [stp, lk] at same
        have hb2 := lstAt_ex e2 hb
        have hl2 := lstAt_ex e2 hl
        refine ⟨_, rfl, _, rfl, pb, _, rfl, seqAt_of_lst hb2, rfl, flat_str _, _, rfl, ?_⟩
        show if (!inV (V.str y') (bs.map V.str)) = true then _ else _
        rw [in_str]
        by_cases yb : y' ∈ bs
        · rw [if_pos yb] at same
          rw [decide_eq_true yb]
          refine iteF ?_
          obtain ⟨ts, g1, g2, g3⟩ := hd.ex e2
          obtain ⟨t, k1, k2⟩ := rowKvs_get g2 nd hj
          obtain ⟨l, s1, s2⟩ := g3 j _ t hj k1
          refine ⟨_, rfl, _, rfl, _, _, rfl, k2 ▸ DGet.k (k := Sum.inr y') g1, _, _, _, _, rfl, rfl, seqAt_tup s1, at0, rfl, _, rfl, ?_⟩
          by_cases c : af = 0
          · have c2 : (decide (0 ≤ af) && decide (af < 1)) = true := by rw [c]; rfl
            simp only [c2, if_true] at same
            refine iteNS (by rw [c]) ?_
            walk_at "ex"
            refine s_lst (a := l) (by intro _ q; exact ⟨_, rfl, _, rfl, _, _, rfl, k2 ▸ DGet.k (k := Sum.inr y') g1, _, _, _, _, rfl, rfl, seqAt_tup s1, atI_nat (j := 1) rfl, q⟩) s2 (fun k σ' H3 => ∃ o6 : Option V, σ' = [some (.ref pb), some (.ref pl), some (.ref d), o3, o4, some (.str y'), o6] ∧ Evl.Ex H2 H3 ∧ lit.find? (fun s => !decide (s ∈ ls)) = (lit.drop k).find? (fun s => !decide (s ∈ ls)))
              ⟨o6, rfl, .refl _, rfl⟩ (fun k σ' H3 ⟨_, _, e, _⟩ => lstAt_ex e s2) (fun k x σ' H3 hx w => ?_) (fun σ' H3 w => ?_)
            · obtain ⟨o6, rfl, e3, fd⟩ := w
              obtain ⟨z, hz, rfl⟩ := map_at hx
              have hk : k < lit.length := (List.getElem?_eq_some_iff.mp hz).1
              have dz : lit.drop k = z :: lit.drop (k + 1) := by rw [List.drop_eq_getElem_cons hk]; congr 1; exact (List.getElem?_eq_some_iff.mp hz).2
              rw [dz, List.find?_cons] at fd
              refine ⟨_, rfl, _, rfl, pl, _, rfl, seqAt_of_lst (lstAt_ex e3 hl2), rfl, flat_str _, _, rfl, ?_⟩
              show if (!inV (V.str z) (ls.map V.str)) = true then _ else _
              rw [in_str]
              by_cases zl : z ∈ ls
              · rw [decide_eq_true zl] at fd ⊢
                exact iteF ⟨_, rfl, e3, fd⟩
              · rw [decide_eq_false zl] at fd ⊢
                have fd' : lit.find? (fun s => !decide (s ∈ ls)) = some z := fd
                refine iteT ?_
                refine ⟨_, rfl, Nat.le_of_ble_eq_true rfl, fun t5 H5 ht e5 h5 => ?_⟩
                refine q _ _ (e2.trans (e3.trans e5)) ?_
                rw [one, same, fd']
                exact ⟨t5, _, _, rfl, h5, rfl, rfl⟩
            · obtain ⟨o6, rfl, e3, fd⟩ := w
              rw [List.length_map, List.drop_length] at fd
              have fd' : lit.find? (fun s => !decide (s ∈ ls)) = none := fd
              rw [fd'] at same
              exact ⟨ys, _, _, rfl, rfl, lstAt_ex e3 hp, e2.trans e3, p1, p2, same⟩
          · have c2 : (decide (0 ≤ af) && decide (af < 1)) = false := by
              rw [Bool.and_eq_false_iff, decide_eq_false_iff_not, decide_eq_false_iff_not]
              omega
            simp only [c2, Bool.false_eq_true, if_false] at same
            rw [decide_eq_false (fun z => c (V.int.inj z))]
            refine iteT ?_
            refine ⟨_, rfl, Nat.le_of_ble_eq_true rfl, fun T H5 hT e5 h5 => ⟨Nat.le_of_ble_eq_true rfl, fun t6 H6 ht e6 h6 => ?_⟩⟩
            refine q _ _ (e2.trans (e5.trans e6)) ?_
            rw [one, same]
            exact ⟨t6, _, _, rfl, h6, rfl, T, rfl, e6 _ _ h5⟩
        · rw [if_neg yb] at same
          rw [decide_eq_false yb]
          refine iteT ?_
          refine ⟨_, rfl, Nat.le_of_ble_eq_true rfl, fun t H5 ht e5 h5 => ?_⟩
          refine q _ _ (e2.trans e5) ?_
          rw [one, same]
          exact ⟨t, _, _, rfl, h5, rfl, rfl⟩
      · obtain ⟨ys, o5, o6, rfl, rfl, hp, e2, p1, p2, same⟩ := w
        rw [List.length_map, List.drop_length] at same
        rw [← srt_eq p1 p2, same] at one
        refine ⟨Nat.le_of_ble_eq_true rfl, fun t H5 ht e5 h5 => ?_⟩
        refine q _ _ (e2.trans e5) ?_
        rw [one]
        exact ⟨t, _, _, rfl, h5, rfl, rfl⟩

/-! what a device says -/
/-- which clause names which class: facts of the written part -/
structure Exm (K : PySem.W.Frag) (c : Cs) : Prop where
  i0 : PySem.W.exmOne K (.ref c.I) (.ref c.I) = some true
  d0 : PySem.W.exmOne K (.ref c.D) (.ref c.I) = some false
  d1 : PySem.W.exmOne K (.ref c.D) (.ref c.D) = some true
  b0 : PySem.W.exmOne K (.ref c.B) (.ref c.I) = some false
  b1 : PySem.W.exmOne K (.ref c.B) (.ref c.D) = some false
  b2 : PySem.W.exmOne K (.ref c.B) (.ref c.B) = some true
  s0 : PySem.W.exmOne K (.ref c.S) (.ref c.I) = some false
  s1 : PySem.W.exmOne K (.ref c.S) (.ref c.D) = some false
  s2 : PySem.W.exmOne K (.ref c.S) (.ref c.B) = some false
  s3 : PySem.W.exmOne K (.ref c.S) (.ref c.S) = some true
  l0 : PySem.W.exmOne K (.ref c.L) (.ref c.I) = some false
  l1 : PySem.W.exmOne K (.ref c.L) (.ref c.D) = some false
  l2 : PySem.W.exmOne K (.ref c.L) (.ref c.B) = some false
  l3 : PySem.W.exmOne K (.ref c.L) (.ref c.S) = some false
  l4 : PySem.W.exmOne K (.ref c.L) (.ref c.L) = some true
/-! _law_told; slots: 0:_law_presses 1:_law_lights 2:_law_table_here 3:_law_word 4:_law_found 5:e -/
abbrev s__law_told : Stmt := top 30
abbrev N__law_told : List Str := ["_law_presses", "_law_lights", "_law_table_here", "_law_word", "_law_found", "e"]
theorem sc__law_told : FnScope N__law_told ["_law_presses", "_law_lights", "_law_table_here"] (defScope s__law_told) := ⟨rfl, rfl, rfl, by decide +kernel, rfl, by decide +kernel, by decide +kernel⟩
def spTold : Sp := fun vs H Q _ => ∃ (pb pl d : Addr) (bs ls : List Str) (row : Row), vs = [.ref pb, .ref pl, .ref d] ∧ lstAt H pb = some (bs.map V.str) ∧ lstAt H pl = some (ls.map V.str) ∧ RowAt H d row ∧ (row.map (·.1)).Nodup ∧ row.length ≤ 60 ∧
  bs.length ≤ 60 ∧ ls.length ≤ 60 ∧ (∀ s ∈ bs, s.length ≤ 1000) ∧ (∀ s ∈ ls, s.length ≤ 1000) ∧ ∀ v H', Evl.Ex H H' → OutAt H' (devErr bs ls [row]) v → Q v H'
theorem ok_told {f C fI fD fB fS fL : Addr} {fd : FuncData} {c : Cs} (F : Fun K "_law_told" "_law_told" s__law_told f fd) (Z : Bi mg) (M_Device : Mkx P w K mg base "Device" C 5 ["self", "buttons", "lamps", "states"] (spDevI C c)) (EX : Exm K c)
    (X_InvalidName : ErrC K mg "InvalidName" c.I fI) (X_DoubleName : ErrC K mg "DoubleName" c.D fD) (X_UnknownButton : ErrC K mg "UnknownButton" c.B fB) (X_InvalidStep : ErrC K mg "InvalidStep" c.S fS) (X_UnknownLamp : ErrC K mg "UnknownLamp" c.L fL) :
    FnOk P w K mg base CX0 7 f fd ["_law_presses", "_law_lights", "_law_table_here"] spTold := by
  have g_InvalidName := X_InvalidName.g
  have g_DoubleName := X_DoubleName.g
  have g_UnknownButton := X_UnknownButton.g
  have g_InvalidStep := X_InvalidStep.g
  have g_UnknownLamp := X_UnknownLamp.g
  refine F.ok sc__law_told (fun vs H Q E h => ?_) (fun cdv A outer s H vs Q E hr h => ?_)
  · obtain ⟨pb, pl, d, bs, ls, row, rfl, _⟩ := h
    rfl
  · obtain ⟨pb, pl, d, bs, ls, row, rfl, hb, hl, hd, nd, rl, l1, l2, z1, z2, q⟩ := h
    refine ⟨_, (pss_cons (ps_set (i := 3) sc__law_told.nd rfl (Or.inl rfl) pe_str)
    (pss_cons (ps_set (i := 4) sc__law_told.nd rfl (Or.inl rfl) pe_non)
    (pss_cons (ps_try_mas (i := 5) rfl rfl sc__law_told.nd rfl rfl takes0 (fun W pn xe tk _ => (pss_one (ps_expr (pe_mkx M_Device tk (hr.mono (by first | decide | omega)) rfl (pa_cons (pv 0) (pa_cons (pv 1) (pa_cons (pe_lstF (pa_cons (pv 2) pa_nil)) pa_nil)))))))
      (HdsAs.cons ⟨rfl, by decide, .inl g_InvalidName⟩ (fun a ob cl dd pn hz hf => (pss_cons (ps_set (i := 3) sc__law_told.nd rfl (Or.inl rfl) pe_str)
    (pss_one (ps_set (i := 4) sc__law_told.nd rfl (Or.inl rfl) (pe_xf X_InvalidName.xf X_InvalidName.no hz hf (pv 5))))))
      (HdsAs.cons ⟨rfl, by decide, .inl g_DoubleName⟩ (fun a ob cl dd pn hz hf => (pss_cons (ps_set (i := 3) sc__law_told.nd rfl (Or.inl rfl) pe_str)
    (pss_one (ps_set (i := 4) sc__law_told.nd rfl (Or.inl rfl) (pe_xf X_DoubleName.xf X_DoubleName.no hz hf (pv 5))))))
      (HdsAs.cons ⟨rfl, by decide, .inl g_UnknownButton⟩ (fun a ob cl dd pn hz hf => (pss_cons (ps_set (i := 3) sc__law_told.nd rfl (Or.inl rfl) pe_str)
    (pss_one (ps_set (i := 4) sc__law_told.nd rfl (Or.inl rfl) (pe_xf X_UnknownButton.xf X_UnknownButton.no hz hf (pv 5))))))
      (HdsAs.cons ⟨rfl, by decide, .inl g_InvalidStep⟩ (fun a ob cl dd pn hz hf => (pss_cons (ps_set (i := 3) sc__law_told.nd rfl (Or.inl rfl) pe_str)
    (pss_one (ps_set (i := 4) sc__law_told.nd rfl (Or.inl rfl) (pe_xf X_InvalidStep.xf X_InvalidStep.no hz hf (pv 5))))))
      (HdsAs.cons ⟨rfl, by decide, .inl g_UnknownLamp⟩ (fun a ob cl dd pn hz hf => (pss_cons (ps_set (i := 3) sc__law_told.nd rfl (Or.inl rfl) pe_str)
    (pss_one (ps_set (i := 4) sc__law_told.nd rfl (Or.inl rfl) (pe_xf X_UnknownLamp.xf X_UnknownLamp.no hz hf (pv 5))))))
      HdsAs.nil))))))
    (pss_one (ps_ret (pe_tupF (pa_cons (pv 3) (pa_cons (pv 4) pa_nil)))))))), ?_⟩
    have last : ∀ (n : Str) (u : V) (H' : Hp), Evl.Ex H H' → OutOf H' (devErr bs ls [row]) n u → tRet (tTupF (tCons (tVar 3) (tCons (tVar 4) tNil))) { nx := fun _ H' => Q .non H', rt := Q } [some (.ref pb), some (.ref pl), some (.ref d), some (.str n), some u, none] H' :=
      fun n u H' e o => ⟨_, rfl, _, rfl, Nat.le_of_ble_eq_true rfl, fun t H5 ht e5 h5 => q _ _ (e.trans e5) ⟨t, n, u, rfl, h5, o.ex e5⟩⟩
    have lk : ∀ v : V, List.lookup ("value" : Str) [(("value" : Str), v)] = some v := fun v => by simp
    refine ⟨_, rfl, _, rfl, _, rfl, Nat.le_of_ble_eq_true rfl, fun l H1 hl0 e1 h1 => fun x dx hx hdx ne => ?_⟩
    have eG : Evl.Ex H1 (upd (upd H1 dx (.own x)) x (.ins C dx [])) := (Evl.Ex.new hdx).trans (Evl.Ex.new (by rw [upd_ne ne.symm]; exact hx))
    have e0 := e1.trans eG
    have hxH : H x = none := Evl.fresh_back e1 hx
    refine ⟨x, dx, pb, pl, l, bs, ls, [row], rfl, upd_same, lstAt_ex e0 hb, lstAt_ex e0 hl, ⟨[d], lstAt_of (eG _ _ h1), rfl, fun i d' r a b => ?_⟩, fun r m => by rw [List.mem_singleton.mp m]; exact ⟨nd, rl⟩, l1, l2, by show 1 ≤ 60; decide, z1, z2, fun H' dn k dev => ⟨rfl, last _ _ H' (fun a o e => k a o (fun z => by rw [z, hxH] at e; cases e) (e0 _ _ e)) (by rw [dn]; exact ⟨rfl, rfl⟩)⟩, fun er cls d' H' de ex at_ => ?_⟩
    · cases i with
      | zero => cases a; cases b; exact hd.ex e0
      | succ i => cases a
    · have eH := e0.trans ex
      have fin : ∀ n u, OutOf H' (some er) n u → OutOf H' (devErr bs ls [row]) n u := fun n u o => by rw [de]; exact o
      match er, at_, fin with
      | .name true s, ⟨h1, h2⟩, fin =>
        have h1' : cls = .ref c.D := h1
        subst h1'
        exact ⟨false, EX.d0, (fun z => by cases z), fun _ => ⟨true, EX.d1, fun _ a ha => ⟨_, rfl, rfl, rfl, d', _, _, rfl, h2, lk _, last _ _ H' eH (fin _ _ ⟨rfl, rfl⟩)⟩, fun z => by cases z⟩⟩
      | .name false s, ⟨h1, h2⟩, fin =>
        have h1' : cls = .ref c.I := h1
        subst h1'
        exact ⟨true, EX.i0, fun _ a ha => ⟨_, rfl, rfl, rfl, d', _, _, rfl, h2, lk _, last _ _ H' eH (fin _ _ ⟨rfl, rfl⟩)⟩, fun z => by cases z⟩
      | .st i (.button s), ⟨h1, h2⟩, fin =>
        subst h1
        exact ⟨false, EX.b0, (fun z => by cases z), fun _ => ⟨false, EX.b1, (fun z => by cases z), fun _ => ⟨true, EX.b2, fun _ a ha => ⟨_, rfl, rfl, rfl, d', _, _, rfl, h2, lk _, last _ _ H' eH (fin _ _ ⟨rfl, rfl⟩)⟩, fun z => by cases z⟩⟩⟩
      | .st i (.step s), ⟨h1, t, h2, h3⟩, fin =>
        subst h1
        exact ⟨false, EX.s0, (fun z => by cases z), fun _ => ⟨false, EX.s1, (fun z => by cases z), fun _ => ⟨false, EX.s2, (fun z => by cases z), fun _ => ⟨true, EX.s3, fun _ a ha => ⟨_, rfl, rfl, rfl, d', _, _, rfl, h2, lk _, last _ _ H' eH (fin _ _ ⟨rfl, t, rfl, h3⟩)⟩, fun z => by cases z⟩⟩⟩⟩
      | .st i (.lamp s), ⟨h1, h2⟩, fin =>
        subst h1
        exact ⟨false, EX.l0, (fun z => by cases z), fun _ => ⟨false, EX.l1, (fun z => by cases z), fun _ => ⟨false, EX.l2, (fun z => by cases z), fun _ => ⟨false, EX.l3, (fun z => by cases z), fun _ => ⟨true, EX.l4, fun _ a ha => ⟨_, rfl, rfl, rfl, d', _, _, rfl, h2, lk _, last _ _ H' eH (fin _ _ ⟨rfl, rfl⟩)⟩, fun z => by cases z⟩⟩⟩⟩⟩

theorem nmErr_none : ∀ {ss seen : List Str}, (∀ s ∈ ss, NameOk s) → ss.Nodup → (∀ s ∈ ss, s ∉ seen) → nmErr seen ss = none
  | [], _, _, _, _ => rfl
  | s :: ss, seen, h1, h2, h3 => by
    have n := List.nodup_cons.mp h2
    show (if isNm s = true then (if s ∈ seen then some (true, s) else nmErr (seen ++ [s]) ss) else some (false, s)) = none
    rw [if_pos ((isNm_iff s).mpr (h1 s List.mem_cons_self)), if_neg (h3 s List.mem_cons_self)]
    refine nmErr_none (fun x hx => h1 x (List.mem_cons_of_mem _ hx)) n.2 fun x hx m => ?_
    rcases List.mem_append.mp m with m | m
    · exact h3 x (List.mem_cons_of_mem _ hx) m
    · rw [List.mem_singleton.mp m] at hx
      exact n.1 hx
theorem devErr_none {bs ls : List Str} (b1 : ∀ s ∈ bs, NameOk s) (b2 : bs.Nodup) (l1 : ∀ s ∈ ls, NameOk s) (l2 : ls.Nodup) : devErr bs ls [[]] = none := by
  rw [devErr_one, nmErr_none b1 b2 (fun _ _ => List.not_mem_nil), nmErr_none l1 l2 (fun _ _ => List.not_mem_nil)]
  dsimp only
  have e : srt (([] : Row).map (·.1)) = [] := (srt_eq (ys := []) (.refl _) rfl).symm
  rw [e]
  rfl
theorem RowAt.kps {H H' : Hp} {d src : Addr} {row : Row} {n : Int} (h : RowAt H d row) (S : Src H src n) (k : Kp (· = src) H H') : RowAt H' d row := by
  obtain ⟨ts, h1, h2, h3⟩ := h
  obtain ⟨x, y, z, hs, _⟩ := id S
  refine ⟨ts, k _ _ (ne_of h1 hs (by intro z; cases z)) h1, h2, fun i r t a b => ?_⟩
  obtain ⟨l, k1, k2⟩ := h3 i r t a b
  exact ⟨l, k _ _ (ne_of k1 hs (by intro z; cases z)) k1, lstAt_kp k (src_ne k2 S) k2⟩
theorem RowAt.nil {H : Hp} {d : Addr} (h : H d = some (.dK [])) : RowAt H d [] := ⟨[], h, rfl, fun i r t a b => by cases a⟩
theorem alike_strs {H : Hp} {a b : Addr} {ss : List Str} (h1 : H a = some (.lst (ss.map V.str))) (h2 : H b = some (.lst (ss.map V.str))) (hl : ss.length ≤ 1000) : AlikeAt 2 H (.ref a) (.ref b) := by
  refine .inr ⟨a, b, _, _, rfl, rfl, .inl ⟨h1, h2⟩, rfl, by rw [List.length_map]; exact hl, fun i u v hu hv => ?_⟩
  rw [hu] at hv
  have e : u = v := Option.some.inj hv
  obtain ⟨z, hz, rfl⟩ := map_at hu
  exact .inl ⟨e, trivial⟩
/-! law; slots: 0:_law_script 1:_law_k 2:_law_source_here 3:_law_which 4:_law_presses 5:_law_lights 6:_law_table_here 7:_law_spoilt_here 8:_law_due 9:_law_handed 10:_law_box -/
abbrev s_law : Stmt := top 32
abbrev N_law : List Str := ["_law_script", "_law_k", "_law_source_here", "_law_which", "_law_presses", "_law_lights", "_law_table_here", "_law_spoilt_here", "_law_due", "_law_handed", "_law_box"]
theorem sc_law : FnScope N_law ["_law_script"] (defScope s_law) := ⟨rfl, rfl, rfl, by decide +kernel, rfl, by decide +kernel, by decide +kernel⟩
def spLaw (K : PySem.W.Frag) : Sp := fun vs H Q _ => ∃ (a : Addr) (ns : List Int), vs = [.ref a] ∧ SqL K H a (ns.map V.int) ∧ ns.length ≤ 63 ∧ (∀ z ∈ ns, z.natAbs < 2 ^ 1100000) ∧ ∀ H', Q (.bl true) H'
theorem ok_law {f C : Addr} {fd : FuncData} {c : Cs} (F : Fun K "law" "law" s_law f fd) (Z : Bi mg) (T : DevC K C) (M_Device : Mkx P w K mg base "Device" C 5 ["self", "buttons", "lamps", "states"] (spDevI C c))
    (D__law_cell_at : Df P w K mg base "_law_cell_at" 1 ["_law_script", "_law_k"] (spCell K)) (D__law_source : Df P w K mg base "_law_source" 1 ["_law_cell", "_law_k"] spSource) (D__law_draw : Df P w K mg base "_law_draw" 1 ["_law_source_here", "_law_limit"] spDraw)
    (D__law_names : Df P w K mg base "_law_names" 2 ["_law_source_here", "_law_many"] spNames) (D__law_table : Df P w K mg base "_law_table" 2 ["_law_source_here", "_law_presses"] spTable) (D__law_spoilt : Df P w K mg base "_law_spoilt" 3 ["_law_source_here", "_law_names_here"] spSpoilt)
    (D__law_expected : Df P w K mg base "_law_expected" 2 ["_law_presses", "_law_lights", "_law_table_here"] spExp) (D__law_told : Df P w K mg base "_law_told" 7 ["_law_presses", "_law_lights", "_law_table_here"] spTold)
    (D__law_alike : Df P w K mg base "_law_alike" 3 ["_law_found", "_law_due"] (spAlike 2)) (Q_buttons : Pr P w K mg base C "buttons" 1 (spBtn C)) (Q_lamps : Pr P w K mg base C "lamps" 1 (spLmp C)) :
    FnOk P w K mg base CX0 8 f fd ["_law_script"] (spLaw K) := by
  refine F.ok sc_law (fun vs H Q E h => ?_) (fun cdv A outer s H vs Q E hr h => ?_)
  · obtain ⟨a, ns, rfl, _⟩ := h
    rfl
  · obtain ⟨a, ns, rfl, hs, hl, hb, q⟩ := h
    have hu := hu_of hr
    refine ⟨_, (pss_cons (ps_for PassesOwn.never rfl (pi_range1 rfl Z.range (pa_cons (pe_callB (call_max2 rfl) (by rfl) Z.max (by decide +kernel) (pa_cons pe_int (pa_cons (pe_callB (call_min2 rfl) (by rfl) Z.min (by decide +kernel) (pa_cons (pe_callB call_len_seq (by rfl) Z.len (by decide +kernel) (pa_cons (pv 0) pa_nil)) (pa_cons pe_int pa_nil))) pa_nil))) pa_nil)) (pg_name (i := 1) sc_law.nd rfl (Or.inl rfl))
      (pss_cons (ps_set (i := 2) sc_law.nd rfl (Or.inl rfl) (pe_df D__law_source (hr.mono (by first | decide | omega)) rfl (pa_cons (pe_df D__law_cell_at (hr.mono (by first | decide | omega)) rfl (pa_cons (pv 0) (pa_cons (pv 1) pa_nil))) (pa_cons (pv 1) pa_nil))))
    (pss_cons (ps_set (i := 3) sc_law.nd rfl (Or.inl rfl) (pe_df D__law_draw (hr.mono (by first | decide | omega)) rfl (pa_cons (pv 2) (pa_cons pe_int pa_nil))))
    (pss_cons (ps_set (i := 4) sc_law.nd rfl (Or.inl rfl) (pe_df D__law_names (hr.mono (by first | decide | omega)) rfl (pa_cons (pv 2) (pa_cons (pe_df D__law_draw (hr.mono (by first | decide | omega)) rfl (pa_cons (pv 2) (pa_cons pe_int pa_nil))) pa_nil))))
    (pss_cons (ps_set (i := 5) sc_law.nd rfl (Or.inl rfl) (pe_df D__law_names (hr.mono (by first | decide | omega)) rfl (pa_cons (pv 2) (pa_cons (pe_df D__law_draw (hr.mono (by first | decide | omega)) rfl (pa_cons (pv 2) (pa_cons pe_int pa_nil))) pa_nil))))
    (Evl.pss_cut (ps_if (pt_cmpR op_eq (pe_df D__law_draw (hr.mono (by first | decide | omega)) rfl (pa_cons (pv 2) (pa_cons pe_int pa_nil))) pe_int (nomark _)) (pss_one (ps_set (i := 5) sc_law.nd rfl (Or.inl rfl) (pe_callTy call_listF (by rfl) Z.list (by decide +kernel) (pa_cons (pv 4) pa_nil)))) pss_nil)
    (pss_cons (ps_set (i := 6) sc_law.nd rfl (Or.inl rfl) (pe_df D__law_table (hr.mono (by first | decide | omega)) rfl (pa_cons (pv 2) (pa_cons (pv 4) pa_nil))))
    (pss_cons (ps_set (i := 7) sc_law.nd rfl (Or.inl rfl) (pe_lstF (pa_cons (pe_callTy call_listF (by rfl) Z.list (by decide +kernel) (pa_cons (pv 4) pa_nil)) (pa_cons (pe_callTy call_listF (by rfl) Z.list (by decide +kernel) (pa_cons (pv 5) pa_nil)) pa_nil))))
    (Evl.pss_cut (ps_if (pt_cmpR op_ne (pv 3) pe_int (nomark _)) (pss_one (ps_asg (pe_df D__law_spoilt (hr.mono (by first | decide | omega)) rfl (pa_cons (pv 2) (pa_cons (pv 4) pa_nil))) (pg_sub (pv 7) pe_int set_listF))) pss_nil)
    (Evl.pss_cut (ps_if (pt_cmpR op_ne (pv 3) pe_int (nomark _)) (pss_one (ps_asg (pe_df D__law_spoilt (hr.mono (by first | decide | omega)) rfl (pa_cons (pv 2) (pa_cons (pv 5) pa_nil))) (pg_sub (pv 7) pe_int set_listF))) pss_nil)
    (pss_cons (ps_set (i := 8) sc_law.nd rfl (Or.inl rfl) (pe_df D__law_expected (hr.mono (by first | decide | omega)) rfl (pa_cons (pe_ix ix_F (pv 7) pe_int (fun _ _ => rfl)) (pa_cons (pe_ix ix_F (pv 7) pe_int (fun _ _ => rfl)) (pa_cons (pv 6) pa_nil)))))
    (pss_cons (ps_set (i := 9) sc_law.nd rfl (Or.inl rfl) (pe_lstF (pa_cons (pe_callTy call_listF (by rfl) Z.list (by decide +kernel) (pa_cons (pe_ix ix_F (pv 7) pe_int (fun _ _ => rfl)) pa_nil)) (pa_cons (pe_callTy call_listF (by rfl) Z.list (by decide +kernel) (pa_cons (pe_ix ix_F (pv 7) pe_int (fun _ _ => rfl)) pa_nil)) pa_nil))))
    (pss_cons (ps_if (PW.pt (pw_or (pt_not (pt_val (pe_df D__law_alike (hr.mono (by first | decide | omega)) rfl (pa_cons (pe_df D__law_told (hr.mono (by first | decide | omega)) rfl (pa_cons (pe_ix ix_F (pv 9) pe_int (fun _ _ => rfl)) (pa_cons (pe_ix ix_F (pv 9) pe_int (fun _ _ => rfl)) (pa_cons (pv 6) pa_nil)))) (pa_cons (pv 8) pa_nil))))) (pw_or1 (pt_cmpR (op_ne2 hr.units) (pv 9) (pv 7) (nomark _))))) (pss_one (ps_ret pe_bl)) pss_nil)
    (pss_cons (ps_if (pt_not (pt_val (pe_df D__law_alike (hr.mono (by first | decide | omega)) rfl (pa_cons (pe_df D__law_told (hr.mono (by first | decide | omega)) rfl (pa_cons (pe_callTy call_listF (by rfl) Z.list (by decide +kernel) (pa_cons (pv 4) pa_nil)) (pa_cons (pe_callTy call_listF (by rfl) Z.list (by decide +kernel) (pa_cons (pv 5) pa_nil)) (pa_cons pe_dnewF pa_nil)))) (pa_cons (pe_tupF (pa_cons pe_str (pa_cons pe_non pa_nil))) pa_nil))))) (pss_one (ps_ret pe_bl)) pss_nil)
    (pss_cons (ps_set (i := 10) sc_law.nd rfl (Or.inl rfl) (pe_mkx M_Device takes0 (hr.mono (by first | decide | omega)) rfl (pa_cons (pe_callTy call_listF (by rfl) Z.list (by decide +kernel) (pa_cons (pv 4) pa_nil)) (pa_cons (pe_callTy call_listF (by rfl) Z.list (by decide +kernel) (pa_cons (pv 5) pa_nil)) (pa_cons (pe_lstF (pa_cons pe_dnewF pa_nil)) pa_nil)))))
    (pss_one (ps_if (PW.pt (pw_or (pt_not (pt_val (pe_df D__law_alike (hr.mono (by first | decide | omega)) rfl (pa_cons (pe_pr Q_buttons T.cl (hr.mono (by decide)) (pv 10)) (pa_cons (pv 4) pa_nil))))) (pw_or1 (pt_not (pt_val (pe_df D__law_alike (hr.mono (by first | decide | omega)) rfl (pa_cons (pe_pr Q_lamps T.cl (hr.mono (by decide)) (pv 10)) (pa_cons (pv 5) pa_nil)))))))) (pss_one (ps_ret pe_bl)) pss_nil)))))))))))))))))
    (pss_one (ps_ret pe_bl))), ?_⟩
    walk_at "ex"
    refine s_rngD (fun n H1 => n ≤ 40 ∧ H1 = H) (fun R q => ⟨_, rfl, _, _, rfl, .inl hs, _, _, rfl, _, _, rfl, ?_⟩) (fun n k σ' H' => n ≤ 40 ∧ ∃ (o1 o2 o3 o4 o5 o6 o7 o8 o9 o10 : Option V), σ' = [some (.ref a), o1, o2, o3, o4, o5, o6, o7, o8, o9, o10] ∧ Evl.Ex H H')
      (fun n H1 e => ⟨e.1, none, none, none, none, none, none, none, none, none, none, rfl, by rw [e.2]; exact .refl _⟩) (fun n k σ' H' hk w => ?_) (fun n σ' H' w => ?_)
    · have hlen : (ns.map V.int).length ≤ 63 := by rw [List.length_map]; exact hl
      generalize (ns.map V.int).length = m at hlen ⊢
      obtain ⟨j, hj, j40⟩ : ∃ j : Nat, (if (if (40 : Int) < (m : Int) then (40 : Int) else (m : Int)) > 1 then (if (40 : Int) < (m : Int) then (40 : Int) else (m : Int)) else 1) = (j : Int) ∧ j ≤ 40 := by
        by_cases c : (40 : Int) < (m : Int)
        · exact ⟨40, by rw [if_pos c]; rfl, by decide⟩
        · rw [if_neg c]
          by_cases c2 : (m : Int) > 1
          · exact ⟨m, by rw [if_pos c2], by omega⟩
          · exact ⟨1, by rw [if_neg c2]; rfl, by decide⟩
      rw [hj]
      exact q j H (by omega) ⟨j40, rfl⟩
    · obtain ⟨n40, o1, o2, o3, o4, o5, o6, o7, o8, o9, o10, rfl, eH⟩ := w
      have hs' : SqL K H' a (ns.map V.int) := hs.elim (fun h => .inl (h.elim (fun h => .inl (eH _ _ h)) fun ⟨o, h⟩ => .inr ⟨o, eH _ _ h⟩)) fun h => .inr h
      refine ⟨_, rfl, _, rfl, a, ns, k, rfl, hs', hb, fun z hz => ⟨_, rfl, z, k, rfl, hz, by omega, fun src H1 hsrc e1 S1 => ?_⟩⟩
      have srcH : H src = none := Evl.fresh_back eH hsrc
      refine ⟨_, rfl, _, _, _, rfl, by decide, by decide, S1, by decide, fun which H2 w0 w1 k2 S2 => ?_⟩
      -- presses, lights
      refine ⟨_, rfl, _, rfl, _, _, _, rfl, by decide, by decide, S2, by omega, fun m1 H3 m10 m11 k3 S3 => ?_⟩
      obtain ⟨mm1, rfl⟩ : ∃ j : Nat, m1 = (j : Int) := ⟨m1.toNat, by omega⟩
      refine ⟨src, mm1, _, rfl, by omega, S3, by omega, fun pp H4 ps pp0 k4 S4 hp4 pln pnd pok => ?_⟩
      refine ⟨_, rfl, _, rfl, _, _, _, rfl, by decide, by decide, S4, by omega, fun m2 H5 m20 m21 k5 S5 => ?_⟩
      obtain ⟨mm2, rfl⟩ : ∃ j : Nat, m2 = (j : Int) := ⟨m2.toNat, by omega⟩
      refine ⟨src, mm2, _, rfl, by omega, S5, by omega, fun pl0 H6 ls0 pl00 k6 S6 hl6 lln0 lnd0 lok0 => ?_⟩
      have pp_src := src_ne (lstAt_of hp4) S4
      have pl0_src := src_ne (lstAt_of hl6) S6
      have hp6 := k6 _ _ pp_src (k5 _ _ pp_src hp4)
      have K6 : Kp (· = src) H1 H6 := k2.trans (k3.trans (k4.trans (k5.trans k6)))
      refine ⟨fun σ2 G => ∃ (pl : Addr) (ls : List Str), σ2 = [some (.ref a), some (.int k), some (.ref src), some (.int which), some (.ref pp), some (.ref pl), o6, o7, o8, o9, o10] ∧ Kp (· = src) H6 G ∧ Src G src 500 ∧ G pl = some (.lst (ls.map V.str)) ∧ ls.length ≤ 5 ∧ ls.Nodup ∧ ∀ s ∈ ls, NameOk s, ?_, fun σ2 H7 m => ?_⟩
      · refine ⟨_, rfl, _, _, _, rfl, by decide, by decide, S6, by omega, fun r H8 r0 r1 k8 S8 => ⟨rfl, _, rfl, ?_⟩⟩
        refine ite2 (fun _ => ?_) (fun _ => ?_)
        · exact ⟨_, rfl, _, _, rfl, seqAt_lst (k8 _ _ pp_src hp6), fun l H9 hl9 e9 h9 => ⟨l, ps, rfl, k8.trans (.of_ex e9), (S8.keep fun o h => e9 _ _ h).mono (by omega), h9, by omega, pnd, pok⟩⟩
        · exact ⟨pl0, ls0, rfl, k8, S8.mono (by omega), k8 _ _ pl0_src hl6, by omega, lnd0, lok0⟩
      obtain ⟨pl, ls, rfl, k7, S7, hl7, lln, lnd, lok⟩ := m
      have pl_src := src_ne (lstAt_of hl7) S7
      have hp7 := k7 _ _ pp_src hp6
      -- table
      refine ⟨_, rfl, _, rfl, src, pp, _, ps, rfl, lstAt_of hp7, pok, S7, by omega, fun d H8 row d0 k8 S8 hd8 rl rr => ?_⟩
      have hp8 := k8 _ _ pp_src hp7
      have hl8 := k8 _ _ pl_src hl7
      have K8 : Kp (· = src) H1 H8 := K6.trans (k7.trans k8)
      -- spoilt_here
      refine ⟨_, rfl, _, _, rfl, seqAt_lst hp8, fun l1 H9 l10 e9 h9 => ?_⟩
      refine ⟨_, rfl, _, _, rfl, seqAt_lst (e9 _ _ hl8), fun l2 H10 l20 e10 h10 => ?_⟩
      refine ⟨Nat.le_of_ble_eq_true rfl, fun L H11 L0 e11 h11 => ?_⟩
      have e8 : Evl.Ex H8 H11 := e9.trans (e10.trans e11)
      have L8 : H8 L = none := Evl.fresh_back (e9.trans e10) L0
      have S11 : Src H11 src 502 := S8.keep fun o h => e8 _ _ h
      have L_src : L ≠ src := fun e => src_some S8 (e ▸ L8)
      have l1_L : l1 ≠ L := ne_of_none (e10 _ _ h9) L0
      have l2_L : l2 ≠ L := ne_of_none h10 L0
      have l1_src : l1 ≠ src := fun e => src_some S8 (e ▸ l10)
      have l2_src : l2 ≠ src := fun e => src_some S8 (e ▸ (Evl.fresh_back e9 l20))
      simp only [gName_ap]
      -- the first list
      refine ⟨fun σ2 G => ∃ (q1 : Addr) (ss : List Str), σ2 = [some (.ref a), some (.int k), some (.ref src), some (.int which), some (.ref pp), some (.ref pl), some (.ref d), some (.ref L), o8, o9, o10] ∧ Kp (· = src) H8 G ∧ Src G src 600 ∧ G L = some (.lst [.ref q1, .ref l2]) ∧ G q1 = some (.lst (ss.map V.str)) ∧ G l2 = some (.lst (ls.map V.str)) ∧ q1 ≠ L ∧ q1 ≠ src ∧ ss.length ≤ 11 ∧ ∀ s ∈ ss, Asc s ∧ s.length ≤ 400, ?_, fun σ2 H12 m => ?_⟩
      · refine ⟨_, rfl, rfl, _, rfl, ?_⟩
        refine ite2 (fun _ => ?_) (fun _ => ?_)
        · refine ⟨_, rfl, _, rfl, src, pp, _, ps, rfl, lstAt_of (e8 _ _ hp8), by omega, pok, S11, by omega, fun q1 H12 ss q10 k12 S12 h12 ln az => ?_⟩
          have q1_L : q1 ≠ L := fun e => by rw [e, h11] at q10; cases q10
          have q1_src : q1 ≠ src := fun e => src_some S11 (e ▸ q10)
          refine ⟨_, rfl, L, _, 0, 0, rfl, rfl, k12 _ _ L_src h11, rfl, fun H13 k13 h13 => ?_⟩
          refine ⟨q1, ss, rfl, fun x o n e => k13 x o (fun z => by rw [z, L8] at e; cases e) (k12 _ _ n (e8 _ _ e)), (S12.keep fun o h => k13 _ _ (fun z => L_src z.symm) h).mono (by omega), h13, k13 _ _ q1_L h12, k13 _ _ l2_L (k12 _ _ l2_src (e11 _ _ h10)), q1_L, q1_src, ln, az⟩
        · exact ⟨l1, ps, rfl, .of_ex e8, S11.mono (by omega), h11, e11 _ _ (e10 _ _ h9), e11 _ _ h10, l1_L, l1_src, by omega, fun s hs => ⟨asc_name (pok s hs), by have := (pok s hs).2.1; rw [len_cd]; omega⟩⟩
      obtain ⟨q1, ss, rfl, k12, S12, hL12, hq1, hl2, q1_L, q1_src, sln, saz⟩ := m
      -- the second list
      refine ⟨fun σ2 G => ∃ (q2 : Addr) (ts : List Str), σ2 = [some (.ref a), some (.int k), some (.ref src), some (.int which), some (.ref pp), some (.ref pl), some (.ref d), some (.ref L), o8, o9, o10] ∧ Kp (· = src) H8 G ∧ G L = some (.lst [.ref q1, .ref q2]) ∧ G q1 = some (.lst (ss.map V.str)) ∧ G q2 = some (.lst (ts.map V.str)) ∧ ts.length ≤ 11 ∧ ∀ s ∈ ts, Asc s ∧ s.length ≤ 400, ?_, fun σ2 G m => ?_⟩
      · refine ⟨_, rfl, rfl, _, rfl, ?_⟩
        refine ite2 (fun _ => ?_) (fun _ => ?_)
        · refine ⟨_, rfl, _, rfl, src, pl, _, ls, rfl, lstAt_of (k12 _ _ pl_src hl8), by omega, lok, S12, by omega, fun q2 H13 ts q20 k13 S13 h13 ln az => ?_⟩
          have q2_L : q2 ≠ L := fun e => by rw [e, hL12] at q20; cases q20
          refine ⟨_, rfl, L, _, 1, 1, rfl, rfl, k13 _ _ L_src hL12, rfl, fun H14 k14 h14 => ?_⟩
          exact ⟨q2, ts, rfl, fun x o n e => k14 x o (fun z => by rw [z, L8] at e; cases e) (k13 _ _ n (k12 _ _ n e)), h14, k14 _ _ q1_L (k13 _ _ q1_src hq1), k14 _ _ q2_L h13, ln, az⟩
        · exact ⟨l2, ls, rfl, k12, hL12, hq1, hl2, by omega, fun s hs => ⟨asc_name (lok s hs), by have := (lok s hs).2.1; rw [len_cd]; omega⟩⟩
      obtain ⟨q2, ts, rfl, kG, hL, hq1, hq2, tln, taz⟩ := m
      have hpG := kG _ _ pp_src hp8
      have hlG := kG _ _ pl_src hl8
      have rowG := hd8.kps S8 kG
      have nd : (row.map (·.1)).Nodup := by
        match row, rl with
        | [], _ => exact List.nodup_nil
        | [r], _ => simp
        | _ :: _ :: _, rl => simp at rl
      have EG : Evl.Ex H G := fun x o e => kG x o (fun z => by rw [z, srcH] at e; cases e) (K8 x o (fun z => by rw [z, srcH] at e; cases e) (e1 _ _ (eH _ _ e)))
      -- due
      refine ⟨_, rfl, _, _, _, _, rfl, rfl, seqAt_lst hL, at0, _, rfl, _, _, _, _, rfl, rfl, seqAt_lst hL, atI_nat (j := 1) rfl, _, rfl, q1, q2, d, ss, ts, row, rfl, lstAt_of hq1, lstAt_of hq2, rowG, nd, by omega, by omega, by omega, fun s h => by have := (saz s h).2; omega, fun s h => by have := (taz s h).2; omega, fun v G1 eG1 o1 => ?_⟩
      have hL1 := eG1 _ _ hL
      -- handed
      refine ⟨_, rfl, _, _, _, _, rfl, rfl, seqAt_lst hL1, at0, _, _, rfl, seqAt_lst (eG1 _ _ hq1), fun h1 G2 h10' eG2 hh1 => ?_⟩
      refine ⟨_, rfl, _, _, _, _, rfl, rfl, seqAt_lst (eG2 _ _ hL1), atI_nat (j := 1) rfl, _, _, rfl, seqAt_lst (eG2 _ _ (eG1 _ _ hq2)), fun h2 G3 h20' eG3 hh2 => ?_⟩
      refine ⟨Nat.le_of_ble_eq_true rfl, fun HL G4 HL0 eG4 hHL => ?_⟩
      have eG14 : Evl.Ex G G4 := eG1.trans (eG2.trans (eG3.trans eG4))
      have f1 := eG4 _ _ (eG3 _ _ hh1)
      have f2 := eG4 _ _ hh2
      have saz2 : ∀ s ∈ ss, s.length ≤ 1000 := fun s h => by have := (saz s h).2; omega
      have taz2 : ∀ s ∈ ts, s.length ≤ 1000 := fun s h => by have := (taz s h).2; omega
      simp only [gName_ap]
      refine ⟨_, rfl, _, _, _, _, rfl, rfl, seqAt_lst hHL, at0, _, rfl, _, _, _, _, rfl, rfl, seqAt_lst hHL, atI_nat (j := 1) rfl, _, rfl, h1, h2, d, ss, ts, row, rfl, lstAt_of f1, lstAt_of f2, rowG.ex eG14, nd, by omega, by omega, by omega, saz2, taz2, fun v2 G5 eG5 o2 => ?_⟩
      refine ⟨_, rfl, v2, v, rfl, OutAt.alike o2 (o1.ex ((eG2.trans (eG3.trans eG4)).trans eG5)), _, rfl, iteF ?_⟩
      have eG15 := eG14.trans eG5
      refine ⟨_, rfl, _, rfl, HL, L, h1, h2, q1, q2, ss, ts, rfl, rfl, eG5 _ _ hHL, eG15 _ _ hL, lstAt_of (eG5 _ _ f1), lstAt_of (eG5 _ _ f2), lstAt_of (eG15 _ _ hq1), lstAt_of (eG15 _ _ hq2), fun s h => (saz s h).1, fun s h => (taz s h).1, _, rfl, iteF ?_⟩
      -- nothing spoilt
      have hp5 := eG15 _ _ hpG
      have hl5 := eG15 _ _ hlG
      have none_ := devErr_none pok pnd lok lnd
      have pz : ∀ s ∈ ps, s.length ≤ 1000 := fun s h => by have := (pok s h).2.1; rw [len_cd]; omega
      have lz : ∀ s ∈ ls, s.length ≤ 1000 := fun s h => by have := (lok s h).2.1; rw [len_cd]; omega
      refine ⟨_, rfl, _, _, rfl, seqAt_lst hp5, fun a1 G6 a10 eG6 ha1 => ?_⟩
      refine ⟨_, rfl, _, _, rfl, seqAt_lst (eG6 _ _ hl5), fun a2 G7 a20 eG7 ha2 => fun dd G8 dd0 eG8 hdd => ?_⟩
      refine ⟨a1, a2, dd, ps, ls, [], rfl, lstAt_of (eG8 _ _ (eG7 _ _ ha1)), lstAt_of (eG8 _ _ ha2), .nil hdd, List.nodup_nil, Nat.zero_le _, by omega, by omega, pz, lz, fun v3 G9 eG9 o3 => ?_⟩
      refine ⟨Nat.le_of_ble_eq_true rfl, fun tt G10 tt0 eG10 htt => ?_⟩
      have o4 : OutAt G10 (devErr ps ls [[]]) (.ref tt) := ⟨tt, "", .non, rfl, htt, by rw [none_]; exact ⟨rfl, rfl⟩⟩
      refine ⟨v3, .ref tt, rfl, OutAt.alike (o3.ex eG10) o4, _, rfl, iteF ?_⟩
      have e510 : Evl.Ex G5 G10 := eG6.trans (eG7.trans (eG8.trans (eG9.trans eG10)))
      have hp10 := e510 _ _ hp5
      have hl10 := e510 _ _ hl5
      have E10 := EG.trans (eG15.trans e510)
      -- the device
      refine ⟨_, rfl, _, _, rfl, seqAt_lst hp10, fun b1 G11 b10 eG11 hb1 => ?_⟩
      refine ⟨_, rfl, _, _, rfl, seqAt_lst (eG11 _ _ hl10), fun b2 G12 b20 eG12 hb2 => fun bd G13 bd0 eG13 hbd => ⟨Nat.le_of_ble_eq_true rfl, fun bl G14 bl0 eG14' hbl => fun x dx hx hdx ne => ?_⟩⟩
      have eN : Evl.Ex G14 (upd (upd G14 dx (.own x)) x (.ins C dx [])) := (Evl.Ex.new hdx).trans (Evl.Ex.new (by rw [upd_ne ne.symm]; exact hx))
      have e1014 : Evl.Ex G10 G14 := eG11.trans (eG12.trans (eG13.trans eG14'))
      refine ⟨x, dx, b1, b2, bl, ps, ls, [[]], rfl, upd_same, lstAt_of (eN _ _ (eG14' _ _ (eG13 _ _ (eG12 _ _ hb1)))), lstAt_of (eN _ _ (eG14' _ _ (eG13 _ _ hb2))), ⟨[bd], lstAt_of (eN _ _ hbl), rfl, fun i d' r a b => ?_⟩, fun r m => by rw [List.mem_singleton.mp m]; exact ⟨List.nodup_nil, Nat.zero_le _⟩, by omega, by omega, by show 1 ≤ 60; decide, pz, lz, fun G15 dn kx dev => ⟨rfl, ?_⟩, fun er cls d' H' de ex at_ => by rw [none_] at de; cases de⟩
      · match i, a, b with
        | 0, a, b =>
          cases a
          cases b
          exact RowAt.nil (eN _ _ (eG14' _ _ hbd))
        | i + 1, a, _ => cases a
      have x10 : G10 x = none := Evl.fresh_back e1014 hx
      have e1015 : Evl.Ex G10 G15 := fun y o e => kx y o (fun z => by rw [z, x10] at e; cases e) (eN _ _ (e1014 _ _ e))
      have hp15 := e1015 _ _ hp10
      have hl15 := e1015 _ _ hl10
      have dev' := dev
      obtain ⟨dx', pb', pl', ps', ds', d1, d2, d3, d4, d5, d6⟩ := dev'
      simp only [gName_ap]
      refine ⟨_, rfl, x, dx', _, rfl, d1, x, ps, ls, _, rfl, dev, fun p16 G16 p160 e16 h16 => ?_⟩
      refine ⟨_, rfl, _, _, rfl, alike_strs h16 (e16 _ _ hp15) (by omega), _, rfl, iteF ?_⟩
      refine ⟨_, rfl, x, dx', _, rfl, e16 _ _ d1, x, ps, ls, _, rfl, ⟨dx', pb', pl', ps', ds', e16 _ _ d1, e16 _ _ d2, e16 _ _ d3, e16 _ _ d4, d5, fun i d r u w => (d6 i d r u w).ex e16⟩, fun p17 G17 p170 e17 h17 => ?_⟩
      refine ⟨_, rfl, _, _, rfl, alike_strs h17 (e17 _ _ (e16 _ _ hl15)) (by omega), _, rfl, iteF ?_⟩
      exact ⟨n40, _, _, _, _, _, _, _, _, _, _, rfl, E10.trans (e1015.trans (e16.trans e17))⟩
    · exact q _

theorem all_mk {l : PySem.W.OpenLaw} {w : World} {K : PySem.W.Frag} {h : Heap} {mg : Str → Option Value} {fa fD0 fD1 fD2 fD3 fD4 fD5 fD6 fD7 fD8 fD9 fD10 fD11 fD12 fD13 fD14 fD15 fD16 fD17 fD18 fE CI NI CD ND CB NB CS NS CL NL C pB pL fV fPB fPL : Addr} (X : K.In h) (G : h.Ns mainGlobals mg) (hfa : mg "law" = some (.ref fa))
    {odD0 anD0 odD1 anD1 odD2 anD2 odD3 anD3 odD4 anD4 odD5 anD5 odD6 anD6 odD7 anD7 odD8 anD8 odD9 anD9 odD10 anD10 odD11 anD11 odD12 anD12 odD13 anD13 odD14 anD14 odD15 anD15 odD16 anD16 odD17 anD17 odD18 anD18 odE anE odV anV odPB anPB odPL anPL : Option Addr} {slD0 slD1 slD2 slD3 slD4 slD5 slD6 slD7 slD8 slD9 slD10 slD11 slD12 slD13 slD14 slD15 slD16 slD17 slD18 slE slV slPB slPL : Array (Option Value)} {ocD0 kVD0 dcD0 pmD0 cdD0 ctD0 ocD1 kVD1 dcD1 pmD1 cdD1 ctD1 ocD2 kVD2 dcD2 pmD2 cdD2 ctD2 ocD3 kVD3 dcD3 pmD3 cdD3 ctD3 ocD4 kVD4 dcD4 pmD4 cdD4 ctD4 ocD5 kVD5 dcD5 pmD5 cdD5 ctD5 ocD6 kVD6 dcD6 pmD6 cdD6 ctD6 ocD7 kVD7 dcD7 pmD7 cdD7 ctD7 ocD8 kVD8 dcD8 pmD8 cdD8 ctD8 ocD9 kVD9 dcD9 pmD9 cdD9 ctD9 ocD10 kVD10 dcD10 pmD10 cdD10 ctD10 ocD11 kVD11 dcD11 pmD11 cdD11 ctD11 ocD12 kVD12 dcD12 pmD12 cdD12 ctD12 ocD13 kVD13 dcD13 pmD13 cdD13 ctD13 ocD14 kVD14 dcD14 pmD14 cdD14 ctD14 ocD15 kVD15 dcD15 pmD15 cdD15 ctD15 ocD16 kVD16 dcD16 pmD16 cdD16 ctD16 ocD17 kVD17 dcD17 pmD17 cdD17 ctD17 ocD18 kVD18 dcD18 pmD18 cdD18 ctD18 ocE kVE dcE pmE cdE ctE ocV kVV dcV pmV cdV ctV ocPB kVPB dcPB pmPB cdPB ctPB ocPL kVPL dcPL pmPL cdPL ctPL : Value} {tL tM : Tok} {nmI qI : Str} {bsI bmI : List Value} {snI : List Str} {subI : List Value} {abI : Bool} {colI : Option Bool} {ddI : Option Addr} {m0I m1I m2I m3I m5I : Option Value} {nmD qD : Str} {bsD bmD : List Value} {snD : List Str} {subD : List Value} {abD : Bool} {colD : Option Bool} {ddD : Option Addr} {m0D m1D m2D m3D m5D : Option Value} {nmB qB : Str} {bsB bmB : List Value} {snB : List Str} {subB : List Value} {abB : Bool} {colB : Option Bool} {ddB : Option Addr} {m0B m1B m2B m3B m5B : Option Value} {nmS qS : Str} {bsS bmS : List Value} {snS : List Str} {subS : List Value} {abS : Bool} {colS : Option Bool} {ddS : Option Addr} {m0S m1S m2S m3S m5S : Option Value} {nmL qL : Str} {bsL bmL : List Value} {snL : List Str} {subL : List Value} {abL : Bool} {colL : Option Bool} {ddL : Option Addr} {m0L m1L m2L m3L m5L : Option Value} {rB rL : List Value}
    (aD0 : PySem.W.nsIn K mainGlobals "_law_cell_at" = some (some (.ref fD0)))
    (lD0 : K.lookup fD0 = some ⟨ocD0, odD0, .func (PySem.W.fnOf "_law_cell_at" "_law_cell_at" (defArgs s__law_cell_at) (defBody s__law_cell_at) (defScope s__law_cell_at) .none kVD0 dcD0 pmD0 anD0 cdD0 ctD0), slD0⟩)
    (cD0 : PySem.W.codeIn K cdD0 "_law_cell_at" = true)
    (kD0 : PySem.W.keepIn K (.ref fD0) = true)
    (aD1 : PySem.W.nsIn K mainGlobals "_law_source" = some (some (.ref fD1)))
    (lD1 : K.lookup fD1 = some ⟨ocD1, odD1, .func (PySem.W.fnOf "_law_source" "_law_source" (defArgs s__law_source) (defBody s__law_source) (defScope s__law_source) .none kVD1 dcD1 pmD1 anD1 cdD1 ctD1), slD1⟩)
    (cD1 : PySem.W.codeIn K cdD1 "_law_source" = true)
    (kD1 : PySem.W.keepIn K (.ref fD1) = true)
    (aD2 : PySem.W.nsIn K mainGlobals "_law_draw" = some (some (.ref fD2)))
    (lD2 : K.lookup fD2 = some ⟨ocD2, odD2, .func (PySem.W.fnOf "_law_draw" "_law_draw" (defArgs s__law_draw) (defBody s__law_draw) (defScope s__law_draw) .none kVD2 dcD2 pmD2 anD2 cdD2 ctD2), slD2⟩)
    (cD2 : PySem.W.codeIn K cdD2 "_law_draw" = true)
    (kD2 : PySem.W.keepIn K (.ref fD2) = true)
    (aD3 : PySem.W.nsIn K mainGlobals "_law_names" = some (some (.ref fD3)))
    (lD3 : K.lookup fD3 = some ⟨ocD3, odD3, .func (PySem.W.fnOf "_law_names" "_law_names" (defArgs s__law_names) (defBody s__law_names) (defScope s__law_names) .none kVD3 dcD3 pmD3 anD3 cdD3 ctD3), slD3⟩)
    (cD3 : PySem.W.codeIn K cdD3 "_law_names" = true)
    (kD3 : PySem.W.keepIn K (.ref fD3) = true)
    (aD4 : PySem.W.nsIn K mainGlobals "_law_alike" = some (some (.ref fD4)))
    (lD4 : K.lookup fD4 = some ⟨ocD4, odD4, .func (PySem.W.fnOf "_law_alike" "_law_alike" (defArgs s__law_alike) (defBody s__law_alike) (defScope s__law_alike) .none kVD4 dcD4 pmD4 anD4 cdD4 ctD4), slD4⟩)
    (cD4 : PySem.W.codeIn K cdD4 "_law_alike" = true)
    (kD4 : PySem.W.keepIn K (.ref fD4) = true)
    (aD5 : PySem.W.nsIn K mainGlobals "_law_no_name" = some (some (.ref fD5)))
    (lD5 : K.lookup fD5 = some ⟨ocD5, odD5, .func (PySem.W.fnOf "_law_no_name" "_law_no_name" (defArgs s__law_no_name) (defBody s__law_no_name) (defScope s__law_no_name) .none kVD5 dcD5 pmD5 anD5 cdD5 ctD5), slD5⟩)
    (cD5 : PySem.W.codeIn K cdD5 "_law_no_name" = true)
    (kD5 : PySem.W.keepIn K (.ref fD5) = true)
    (aD6 : PySem.W.nsIn K mainGlobals "_law_spoilt" = some (some (.ref fD6)))
    (lD6 : K.lookup fD6 = some ⟨ocD6, odD6, .func (PySem.W.fnOf "_law_spoilt" "_law_spoilt" (defArgs s__law_spoilt) (defBody s__law_spoilt) (defScope s__law_spoilt) .none kVD6 dcD6 pmD6 anD6 cdD6 ctD6), slD6⟩)
    (cD6 : PySem.W.codeIn K cdD6 "_law_spoilt" = true)
    (kD6 : PySem.W.keepIn K (.ref fD6) = true)
    (aD7 : PySem.W.nsIn K mainGlobals "_law_is_name" = some (some (.ref fD7)))
    (lD7 : K.lookup fD7 = some ⟨ocD7, odD7, .func (PySem.W.fnOf "_law_is_name" "_law_is_name" (defArgs s__law_is_name) (defBody s__law_is_name) (defScope s__law_is_name) .none kVD7 dcD7 pmD7 anD7 cdD7 ctD7), slD7⟩)
    (cD7 : PySem.W.codeIn K cdD7 "_law_is_name" = true)
    (kD7 : PySem.W.keepIn K (.ref fD7) = true)
    (aD8 : PySem.W.nsIn K mainGlobals "_law_expected" = some (some (.ref fD8)))
    (lD8 : K.lookup fD8 = some ⟨ocD8, odD8, .func (PySem.W.fnOf "_law_expected" "_law_expected" (defArgs s__law_expected) (defBody s__law_expected) (defScope s__law_expected) .none kVD8 dcD8 pmD8 anD8 cdD8 ctD8), slD8⟩)
    (cD8 : PySem.W.codeIn K cdD8 "_law_expected" = true)
    (kD8 : PySem.W.keepIn K (.ref fD8) = true)
    (aD9 : PySem.W.nsIn K mainGlobals "_law_told" = some (some (.ref fD9)))
    (lD9 : K.lookup fD9 = some ⟨ocD9, odD9, .func (PySem.W.fnOf "_law_told" "_law_told" (defArgs s__law_told) (defBody s__law_told) (defScope s__law_told) .none kVD9 dcD9 pmD9 anD9 cdD9 ctD9), slD9⟩)
    (cD9 : PySem.W.codeIn K cdD9 "_law_told" = true)
    (kD9 : PySem.W.keepIn K (.ref fD9) = true)
    (aD10 : PySem.W.nsIn K mainGlobals "_law_table" = some (some (.ref fD10)))
    (lD10 : K.lookup fD10 = some ⟨ocD10, odD10, .func (PySem.W.fnOf "_law_table" "_law_table" (defArgs s__law_table) (defBody s__law_table) (defScope s__law_table) .none kVD10 dcD10 pmD10 anD10 cdD10 ctD10), slD10⟩)
    (cD10 : PySem.W.codeIn K cdD10 "_law_table" = true)
    (kD10 : PySem.W.keepIn K (.ref fD10) = true)
    (aD11 : PySem.W.nsIn K mainGlobals "law" = some (some (.ref fD11)))
    (lD11 : K.lookup fD11 = some ⟨ocD11, odD11, .func (PySem.W.fnOf "law" "law" (defArgs s_law) (defBody s_law) (defScope s_law) .none kVD11 dcD11 pmD11 anD11 cdD11 ctD11), slD11⟩)
    (cD11 : PySem.W.codeIn K cdD11 "law" = true)
    (kD11 : PySem.W.keepIn K (.ref fD11) = true)
    (aD12 : PySem.W.nsIn K mainGlobals "is_index" = some (some (.ref fD12)))
    (lD12 : K.lookup fD12 = some ⟨ocD12, odD12, .func (PySem.W.fnOf "is_index" "is_index" (defArgs s_is_index) (defBody s_is_index) (defScope s_is_index) .none kVD12 dcD12 pmD12 anD12 cdD12 ctD12), slD12⟩)
    (cD12 : PySem.W.codeIn K cdD12 "is_index" = true)
    (kD12 : PySem.W.keepIn K (.ref fD12) = true)
    (aD13 : PySem.W.nsIn K mainGlobals "is_name" = some (some (.ref fD13)))
    (lD13 : K.lookup fD13 = some ⟨ocD13, odD13, .func (PySem.W.fnOf "is_name" "is_name" (defArgs s_is_name) (defBody s_is_name) (defScope s_is_name) .none kVD13 dcD13 pmD13 anD13 cdD13 ctD13), slD13⟩)
    (cD13 : PySem.W.codeIn K cdD13 "is_name" = true)
    (kD13 : PySem.W.keepIn K (.ref fD13) = true)
    (aD14 : PySem.W.nsIn K mainGlobals "check_names" = some (some (.ref fD14)))
    (lD14 : K.lookup fD14 = some ⟨ocD14, odD14, .func (PySem.W.fnOf "check_names" "check_names" (defArgs s_check_names) (defBody s_check_names) (defScope s_check_names) .none kVD14 dcD14 pmD14 anD14 cdD14 ctD14), slD14⟩)
    (cD14 : PySem.W.codeIn K cdD14 "check_names" = true)
    (kD14 : PySem.W.keepIn K (.ref fD14) = true)
    (aD15 : PySem.W.nsIn K mainGlobals "check_buttons" = some (some (.ref fD15)))
    (lD15 : K.lookup fD15 = some ⟨ocD15, odD15, .func (PySem.W.fnOf "check_buttons" "check_buttons" (defArgs s_check_buttons) (defBody s_check_buttons) (defScope s_check_buttons) .none kVD15 dcD15 pmD15 anD15 cdD15 ctD15), slD15⟩)
    (cD15 : PySem.W.codeIn K cdD15 "check_buttons" = true)
    (kD15 : PySem.W.keepIn K (.ref fD15) = true)
    (aD16 : PySem.W.nsIn K mainGlobals "check_lamps" = some (some (.ref fD16)))
    (lD16 : K.lookup fD16 = some ⟨ocD16, odD16, .func (PySem.W.fnOf "check_lamps" "check_lamps" (defArgs s_check_lamps) (defBody s_check_lamps) (defScope s_check_lamps) .none kVD16 dcD16 pmD16 anD16 cdD16 ctD16), slD16⟩)
    (cD16 : PySem.W.codeIn K cdD16 "check_lamps" = true)
    (kD16 : PySem.W.keepIn K (.ref fD16) = true)
    (aD17 : PySem.W.nsIn K mainGlobals "check_steps" = some (some (.ref fD17)))
    (lD17 : K.lookup fD17 = some ⟨ocD17, odD17, .func (PySem.W.fnOf "check_steps" "check_steps" (defArgs s_check_steps) (defBody s_check_steps) (defScope s_check_steps) .none kVD17 dcD17 pmD17 anD17 cdD17 ctD17), slD17⟩)
    (cD17 : PySem.W.codeIn K cdD17 "check_steps" = true)
    (kD17 : PySem.W.keepIn K (.ref fD17) = true)
    (aD18 : PySem.W.nsIn K mainGlobals "kept_steps" = some (some (.ref fD18)))
    (lD18 : K.lookup fD18 = some ⟨ocD18, odD18, .func (PySem.W.fnOf "kept_steps" "kept_steps" (defArgs s_kept_steps) (defBody s_kept_steps) (defScope s_kept_steps) .none kVD18 dcD18 pmD18 anD18 cdD18 ctD18), slD18⟩)
    (cD18 : PySem.W.codeIn K cdD18 "kept_steps" = true)
    (kD18 : PySem.W.keepIn K (.ref fD18) = true)
    (zint : PySem.W.nsIn K mainGlobals "int" = some none)
    (zabs : PySem.W.nsIn K mainGlobals "abs" = some none)
    (zlen : PySem.W.nsIn K mainGlobals "len" = some none)
    (zrange : PySem.W.nsIn K mainGlobals "range" = some none)
    (zmax : PySem.W.nsIn K mainGlobals "max" = some none)
    (zmin : PySem.W.nsIn K mainGlobals "min" = some none)
    (zlist : PySem.W.nsIn K mainGlobals "list" = some none)
    (ztuple : PySem.W.nsIn K mainGlobals "tuple" = some none)
    (zsorted : PySem.W.nsIn K mainGlobals "sorted" = some none)
    (zall : PySem.W.nsIn K mainGlobals "all" = some none)
    (zenumerate : PySem.W.nsIn K mainGlobals "enumerate" = some none)
    (zisinstance : PySem.W.nsIn K mainGlobals "isinstance" = some none)
    (zbool : PySem.W.nsIn K mainGlobals "bool" = some none)
    (zstr : PySem.W.nsIn K mainGlobals "str" = some none)
    (kLET : PySem.W.nsIn K mainGlobals "LETTERS" = some (some (.str "abcdefghijklmnopqrstuvwxyz" tL)))
    (kLON : PySem.W.nsIn K mainGlobals "LONGEST_NAME" = some (some (.int 8 tM)))
    (lE : K.lookup fE = some ⟨ocE, odE, .func (PySem.W.fnOf "__init__" "PressError.__init__" (defArgs s_PressError___init__) (defBody s_PressError___init__) (defScope s_PressError___init__) .none kVE dcE pmE anE cdE ctE), slE⟩)
    (cE : PySem.W.codeIn K cdE "PressError.__init__" = true)
    (kE : PySem.W.keepIn K (.ref fE) = true)
    (tyE : PySem.W.typeIn K (.ref fE) = some (.type "function"))
    (gI : PySem.W.nsIn K mainGlobals "InvalidName" = some (some (.ref CI)))
    (xI : K.lookup CI = some (excClassObj nmI qI CI NI bsI bmI true snI subI abI colI ddI m0I m1I m2I m3I m5I "ValueError.__new__"))
    (rvI : PySem.HandSPX.refsVE bmI = true)
    (saI : PySem.W.findIn K (.ref CI) "__setattr__" = some (some (.builtin "object.__setattr__")))
    (exI : PySem.W.subIn K (.ref CI) (.type "BaseException") = some true)
    (tyI : PySem.W.typeIn K (.ref CI) = some (.type "type"))
    (kcI : PySem.W.keepIn K (.ref CI) = true)
    (inI : PySem.W.findIn K (.ref CI) "__init__" = some (some (.ref fE)))
    (noI : PySem.W.findIn K (.ref CI) "value" = some none)
    (gaI : PySem.W.findIn K (.ref CI) "__getattribute__" = some (some (.builtin "BaseException.__getattribute__")))
    (ggI : PySem.W.findIn K (.ref CI) "__getattr__" = some none)
    (hdI : PySem.W.hasDictIn K CI = true)
    (gD : PySem.W.nsIn K mainGlobals "DoubleName" = some (some (.ref CD)))
    (xD : K.lookup CD = some (excClassObj nmD qD CD ND bsD bmD true snD subD abD colD ddD m0D m1D m2D m3D m5D "ValueError.__new__"))
    (rvD : PySem.HandSPX.refsVE bmD = true)
    (saD : PySem.W.findIn K (.ref CD) "__setattr__" = some (some (.builtin "object.__setattr__")))
    (exD : PySem.W.subIn K (.ref CD) (.type "BaseException") = some true)
    (tyD : PySem.W.typeIn K (.ref CD) = some (.type "type"))
    (kcD : PySem.W.keepIn K (.ref CD) = true)
    (inD : PySem.W.findIn K (.ref CD) "__init__" = some (some (.ref fE)))
    (noD : PySem.W.findIn K (.ref CD) "value" = some none)
    (gaD : PySem.W.findIn K (.ref CD) "__getattribute__" = some (some (.builtin "BaseException.__getattribute__")))
    (ggD : PySem.W.findIn K (.ref CD) "__getattr__" = some none)
    (hdD : PySem.W.hasDictIn K CD = true)
    (gB : PySem.W.nsIn K mainGlobals "UnknownButton" = some (some (.ref CB)))
    (xB : K.lookup CB = some (excClassObj nmB qB CB NB bsB bmB true snB subB abB colB ddB m0B m1B m2B m3B m5B "ValueError.__new__"))
    (rvB : PySem.HandSPX.refsVE bmB = true)
    (saB : PySem.W.findIn K (.ref CB) "__setattr__" = some (some (.builtin "object.__setattr__")))
    (exB : PySem.W.subIn K (.ref CB) (.type "BaseException") = some true)
    (tyB : PySem.W.typeIn K (.ref CB) = some (.type "type"))
    (kcB : PySem.W.keepIn K (.ref CB) = true)
    (inB : PySem.W.findIn K (.ref CB) "__init__" = some (some (.ref fE)))
    (noB : PySem.W.findIn K (.ref CB) "value" = some none)
    (gaB : PySem.W.findIn K (.ref CB) "__getattribute__" = some (some (.builtin "BaseException.__getattribute__")))
    (ggB : PySem.W.findIn K (.ref CB) "__getattr__" = some none)
    (hdB : PySem.W.hasDictIn K CB = true)
    (gS : PySem.W.nsIn K mainGlobals "InvalidStep" = some (some (.ref CS)))
    (xS : K.lookup CS = some (excClassObj nmS qS CS NS bsS bmS true snS subS abS colS ddS m0S m1S m2S m3S m5S "ValueError.__new__"))
    (rvS : PySem.HandSPX.refsVE bmS = true)
    (saS : PySem.W.findIn K (.ref CS) "__setattr__" = some (some (.builtin "object.__setattr__")))
    (exS : PySem.W.subIn K (.ref CS) (.type "BaseException") = some true)
    (tyS : PySem.W.typeIn K (.ref CS) = some (.type "type"))
    (kcS : PySem.W.keepIn K (.ref CS) = true)
    (inS : PySem.W.findIn K (.ref CS) "__init__" = some (some (.ref fE)))
    (noS : PySem.W.findIn K (.ref CS) "value" = some none)
    (gaS : PySem.W.findIn K (.ref CS) "__getattribute__" = some (some (.builtin "BaseException.__getattribute__")))
    (ggS : PySem.W.findIn K (.ref CS) "__getattr__" = some none)
    (hdS : PySem.W.hasDictIn K CS = true)
    (gL : PySem.W.nsIn K mainGlobals "UnknownLamp" = some (some (.ref CL)))
    (xL : K.lookup CL = some (excClassObj nmL qL CL NL bsL bmL true snL subL abL colL ddL m0L m1L m2L m3L m5L "ValueError.__new__"))
    (rvL : PySem.HandSPX.refsVE bmL = true)
    (saL : PySem.W.findIn K (.ref CL) "__setattr__" = some (some (.builtin "object.__setattr__")))
    (exL : PySem.W.subIn K (.ref CL) (.type "BaseException") = some true)
    (tyL : PySem.W.typeIn K (.ref CL) = some (.type "type"))
    (kcL : PySem.W.keepIn K (.ref CL) = true)
    (inL : PySem.W.findIn K (.ref CL) "__init__" = some (some (.ref fE)))
    (noL : PySem.W.findIn K (.ref CL) "value" = some none)
    (gaL : PySem.W.findIn K (.ref CL) "__getattribute__" = some (some (.builtin "BaseException.__getattribute__")))
    (ggL : PySem.W.findIn K (.ref CL) "__getattr__" = some none)
    (hdL : PySem.W.hasDictIn K CL = true)
    (sII : PySem.W.subIn K (.ref CI) (.ref CI) = some true)
    (sDI : PySem.W.subIn K (.ref CD) (.ref CI) = some false)
    (sDD : PySem.W.subIn K (.ref CD) (.ref CD) = some true)
    (sBI : PySem.W.subIn K (.ref CB) (.ref CI) = some false)
    (sBD : PySem.W.subIn K (.ref CB) (.ref CD) = some false)
    (sBB : PySem.W.subIn K (.ref CB) (.ref CB) = some true)
    (sSI : PySem.W.subIn K (.ref CS) (.ref CI) = some false)
    (sSD : PySem.W.subIn K (.ref CS) (.ref CD) = some false)
    (sSB : PySem.W.subIn K (.ref CS) (.ref CB) = some false)
    (sSS : PySem.W.subIn K (.ref CS) (.ref CS) = some true)
    (sLI : PySem.W.subIn K (.ref CL) (.ref CI) = some false)
    (sLD : PySem.W.subIn K (.ref CL) (.ref CD) = some false)
    (sLB : PySem.W.subIn K (.ref CL) (.ref CB) = some false)
    (sLS : PySem.W.subIn K (.ref CL) (.ref CS) = some false)
    (sLL : PySem.W.subIn K (.ref CL) (.ref CL) = some true)
    (gC : PySem.W.nsIn K mainGlobals "Device" = some (some (.ref C)))
    (pgC : PySem.W.plainGet K C Str.empty = true)
    (hdC : PySem.W.hasDictIn K C = true)
    (poC : PySem.W.plainOver K C = true)
    (saC : PySem.W.findIn K (.ref C) "__setattr__" = some (some (.builtin "object.__setattr__")))
    (mkC : PySem.W.makesIn K C = true)
    (kcC : PySem.W.keepIn K (.ref C) = true)
    (nbuttons : PySem.W.findIn K (.ref C) "_buttons" = some none)
    (nlamps : PySem.W.findIn K (.ref C) "_lamps" = some none)
    (nsteps : PySem.W.findIn K (.ref C) "_steps" = some none)
    (inC : PySem.W.findIn K (.ref C) "__init__" = some (some (.ref fV)))
    (isC : PySem.W.isFn K (.ref fV) = true)
    (lV : K.lookup fV = some ⟨ocV, odV, .func (PySem.W.fnOf "__init__" "Device.__init__" (defArgs s_Device___init__) (defBody s_Device___init__) (defScope s_Device___init__) .none kVV dcV pmV anV cdV ctV), slV⟩)
    (cV : PySem.W.codeIn K cdV "Device.__init__" = true)
    (kV : PySem.W.keepIn K (.ref fV) = true)
    (paB : PySem.W.findIn K (.ref C) "buttons" = some (some (.ref pB)))
    (pgB : PySem.W.specialIn K (.ref pB) "__get__" = some (some (.builtin "property.__get__")))
    (ptB : PySem.W.takesIn K (.ref pB) = some true)
    (prB : PySem.W.recIn K pB "property" = some (.ref fPB :: rB))
    (lPB : K.lookup fPB = some ⟨ocPB, odPB, .func (PySem.W.fnOf "buttons" "Device.buttons" (defArgs s_Device_buttons) (defBody s_Device_buttons) (defScope s_Device_buttons) .none kVPB dcPB pmPB anPB cdPB ctPB), slPB⟩)
    (cPB : PySem.W.codeIn K cdPB "Device.buttons" = true)
    (kPB : PySem.W.keepIn K (.ref fPB) = true)
    (paL : PySem.W.findIn K (.ref C) "lamps" = some (some (.ref pL)))
    (pgL : PySem.W.specialIn K (.ref pL) "__get__" = some (some (.builtin "property.__get__")))
    (ptL : PySem.W.takesIn K (.ref pL) = some true)
    (prL : PySem.W.recIn K pL "property" = some (.ref fPL :: rL))
    (lPL : K.lookup fPL = some ⟨ocPL, odPL, .func (PySem.W.fnOf "lamps" "Device.lamps" (defArgs s_Device_lamps) (defBody s_Device_lamps) (defScope s_Device_lamps) .none kVPL dcPL pmPL anPL cdPL ctPL), slPL⟩)
    (cPL : PySem.W.codeIn K cdPL "Device.lamps" = true)
    (kPL : PySem.W.keepIn K (.ref fPL) = true) :
    ∃ fd : FuncData, (∀ (s : Shared) (v : Value), BindsTo s fd ⟨[v], []⟩ [("_law_script", v)]) ∧ ∀ base : Heap, K.In base → base.Ns mainGlobals mg → FnOk l.prog w K mg base CX0 8 fa fd ["_law_script"] (spLaw K) := by
  have e := hfa.symm.trans (PySem.W.mg_of X G aD11)
  cases e
  have FD0 := fun_mk (st := s__law_cell_at) lD0 cD0 kD0
  have bD0 := FD0.binds (ps := ["_law_script", "_law_k"]) fun _ _ _ _ _ _ us hl => match us, hl with | [_, _], _ => rfl
  have FD1 := fun_mk (st := s__law_source) lD1 cD1 kD1
  have bD1 := FD1.binds (ps := ["_law_cell", "_law_k"]) fun _ _ _ _ _ _ us hl => match us, hl with | [_, _], _ => rfl
  have FD2 := fun_mk (st := s__law_draw) lD2 cD2 kD2
  have bD2 := FD2.binds (ps := ["_law_source_here", "_law_limit"]) fun _ _ _ _ _ _ us hl => match us, hl with | [_, _], _ => rfl
  have FD3 := fun_mk (st := s__law_names) lD3 cD3 kD3
  have bD3 := FD3.binds (ps := ["_law_source_here", "_law_many"]) fun _ _ _ _ _ _ us hl => match us, hl with | [_, _], _ => rfl
  have FD4 := fun_mk (st := s__law_alike) lD4 cD4 kD4
  have bD4 := FD4.binds (ps := ["_law_found", "_law_due"]) fun _ _ _ _ _ _ us hl => match us, hl with | [_, _], _ => rfl
  have FD5 := fun_mk (st := s__law_no_name) lD5 cD5 kD5
  have bD5 := FD5.binds (ps := ["_law_source_here", "_law_names_here"]) fun _ _ _ _ _ _ us hl => match us, hl with | [_, _], _ => rfl
  have FD6 := fun_mk (st := s__law_spoilt) lD6 cD6 kD6
  have bD6 := FD6.binds (ps := ["_law_source_here", "_law_names_here"]) fun _ _ _ _ _ _ us hl => match us, hl with | [_, _], _ => rfl
  have FD7 := fun_mk (st := s__law_is_name) lD7 cD7 kD7
  have bD7 := FD7.binds (ps := ["_law_word"]) fun _ _ _ _ _ _ us hl => match us, hl with | [_], _ => rfl
  have FD8 := fun_mk (st := s__law_expected) lD8 cD8 kD8
  have bD8 := FD8.binds (ps := ["_law_presses", "_law_lights", "_law_table_here"]) fun _ _ _ _ _ _ us hl => match us, hl with | [_, _, _], _ => rfl
  have FD9 := fun_mk (st := s__law_told) lD9 cD9 kD9
  have bD9 := FD9.binds (ps := ["_law_presses", "_law_lights", "_law_table_here"]) fun _ _ _ _ _ _ us hl => match us, hl with | [_, _, _], _ => rfl
  have FD10 := fun_mk (st := s__law_table) lD10 cD10 kD10
  have bD10 := FD10.binds (ps := ["_law_source_here", "_law_presses"]) fun _ _ _ _ _ _ us hl => match us, hl with | [_, _], _ => rfl
  have FD11 := fun_mk (st := s_law) lD11 cD11 kD11
  have bD11 := FD11.binds (ps := ["_law_script"]) fun _ _ _ _ _ _ us hl => match us, hl with | [_], _ => rfl
  have FD12 := fun_mk (st := s_is_index) lD12 cD12 kD12
  have bD12 := FD12.binds (ps := ["number", "count"]) fun _ _ _ _ _ _ us hl => match us, hl with | [_, _], _ => rfl
  have FD13 := fun_mk (st := s_is_name) lD13 cD13 kD13
  have bD13 := FD13.binds (ps := ["text"]) fun _ _ _ _ _ _ us hl => match us, hl with | [_], _ => rfl
  have FD14 := fun_mk (st := s_check_names) lD14 cD14 kD14
  have bD14 := FD14.binds (ps := ["names"]) fun _ _ _ _ _ _ us hl => match us, hl with | [_], _ => rfl
  have FD15 := fun_mk (st := s_check_buttons) lD15 cD15 kD15
  have bD15 := FD15.binds (ps := ["buttons", "known"]) fun _ _ _ _ _ _ us hl => match us, hl with | [_, _], _ => rfl
  have FD16 := fun_mk (st := s_check_lamps) lD16 cD16 kD16
  have bD16 := FD16.binds (ps := ["lamps", "known"]) fun _ _ _ _ _ _ us hl => match us, hl with | [_, _], _ => rfl
  have FD17 := fun_mk (st := s_check_steps) lD17 cD17 kD17
  have bD17 := FD17.binds (ps := ["buttons", "lamps", "count", "state", "steps"]) fun _ _ _ _ _ _ us hl => match us, hl with | [_, _, _, _, _], _ => rfl
  have FD18 := fun_mk (st := s_kept_steps) lD18 cD18 kD18
  have bD18 := FD18.binds (ps := ["lamps", "steps"]) fun _ _ _ _ _ _ us hl => match us, hl with | [_, _], _ => rfl
  have Z : Bi mg := ⟨PySem.W.mg_none_of X G zint, PySem.W.mg_none_of X G zabs, PySem.W.mg_none_of X G zlen, PySem.W.mg_none_of X G zrange, PySem.W.mg_none_of X G zmax, PySem.W.mg_none_of X G zmin, PySem.W.mg_none_of X G zlist, PySem.W.mg_none_of X G ztuple, PySem.W.mg_none_of X G zsorted, PySem.W.mg_none_of X G zall, PySem.W.mg_none_of X G zenumerate, PySem.W.mg_none_of X G zisinstance, PySem.W.mg_none_of X G zbool, PySem.W.mg_none_of X G zstr⟩
  have g_LETTERS : mg "LETTERS" = some (.str ABC tL) := PySem.W.mg_of X G kLET
  have g_LONGEST_NAME := PySem.W.mg_of X G kLON
  have FE := fun_mk (st := s_PressError___init__) lE cE kE
  have bE := FE.binds (ps := ["self", "value"]) fun _ _ _ _ _ _ us hl => match us, hl with | [_, _], _ => rfl
  have X_InvalidName : ErrC K mg "InvalidName" CI fE := ⟨PySem.W.mg_of X G gI, ⟨⟨_, _, _, _, _, _, _, _, _, _, _, _, _, _, _, xI, rvI⟩, saI, exI, tyI, kcI⟩, inI, tyE, noI, ⟨gaI, ggI, exI, hdI⟩⟩
  have X_DoubleName : ErrC K mg "DoubleName" CD fE := ⟨PySem.W.mg_of X G gD, ⟨⟨_, _, _, _, _, _, _, _, _, _, _, _, _, _, _, xD, rvD⟩, saD, exD, tyD, kcD⟩, inD, tyE, noD, ⟨gaD, ggD, exD, hdD⟩⟩
  have X_UnknownButton : ErrC K mg "UnknownButton" CB fE := ⟨PySem.W.mg_of X G gB, ⟨⟨_, _, _, _, _, _, _, _, _, _, _, _, _, _, _, xB, rvB⟩, saB, exB, tyB, kcB⟩, inB, tyE, noB, ⟨gaB, ggB, exB, hdB⟩⟩
  have X_InvalidStep : ErrC K mg "InvalidStep" CS fE := ⟨PySem.W.mg_of X G gS, ⟨⟨_, _, _, _, _, _, _, _, _, _, _, _, _, _, _, xS, rvS⟩, saS, exS, tyS, kcS⟩, inS, tyE, noS, ⟨gaS, ggS, exS, hdS⟩⟩
  have X_UnknownLamp : ErrC K mg "UnknownLamp" CL fE := ⟨PySem.W.mg_of X G gL, ⟨⟨_, _, _, _, _, _, _, _, _, _, _, _, _, _, _, xL, rvL⟩, saL, exL, tyL, kcL⟩, inL, tyE, noL, ⟨gaL, ggL, exL, hdL⟩⟩
  have EX : Exm K ⟨CI, CD, CB, CS, CL⟩ := ⟨PySem.W.exm_ref exI hdI tyI sII, PySem.W.exm_ref exI hdI tyI sDI, PySem.W.exm_ref exD hdD tyD sDD, PySem.W.exm_ref exI hdI tyI sBI, PySem.W.exm_ref exD hdD tyD sBD, PySem.W.exm_ref exB hdB tyB sBB, PySem.W.exm_ref exI hdI tyI sSI, PySem.W.exm_ref exD hdD tyD sSD, PySem.W.exm_ref exB hdB tyB sSB, PySem.W.exm_ref exS hdS tyS sSS, PySem.W.exm_ref exI hdI tyI sLI, PySem.W.exm_ref exD hdD tyD sLD, PySem.W.exm_ref exB hdB tyB sLB, PySem.W.exm_ref exS hdS tyS sLS, PySem.W.exm_ref exL hdL tyL sLL⟩
  have FV := fun_mk (st := s_Device___init__) lV cV kV
  have bV := FV.binds (ps := ["self", "buttons", "lamps", "states"]) fun _ _ _ _ _ _ us hl => match us, hl with | [_, _, _, _], _ => rfl
  have T : DevC K C := ⟨⟨pgC, hdC, poC, saC⟩, nbuttons, nlamps, nsteps⟩
  have FPB := fun_mk (st := s_Device_buttons) lPB cPB kPB
  have bPB := FPB.binds (ps := ["self"]) fun _ _ _ _ _ _ us hl => match us, hl with | [_], _ => rfl
  have FPL := fun_mk (st := s_Device_lamps) lPL cPL kPL
  have bPL := FPL.binds (ps := ["self"]) fun _ _ _ _ _ _ us hl => match us, hl with | [_], _ => rfl
  refine ⟨PySem.W.fnOf "law" "law" (defArgs s_law) (defBody s_law) (defScope s_law) .none kVD11 dcD11 pmD11 anD11 cdD11 ctD11, fun s v => .of_eq rfl, fun base _ _ => ?_⟩
  have D__law_cell_at : Df l.prog w K mg base "_law_cell_at" 1 ["_law_script", "_law_k"] _ := ⟨fD0, _, PySem.W.mg_of X G aD0, kD0, ok__law_cell_at FD0 Z, bD0⟩
  have D__law_source : Df l.prog w K mg base "_law_source" 1 ["_law_cell", "_law_k"] _ := ⟨fD1, _, PySem.W.mg_of X G aD1, kD1, ok__law_source FD1 Z, bD1⟩
  have D__law_draw : Df l.prog w K mg base "_law_draw" 1 ["_law_source_here", "_law_limit"] _ := ⟨fD2, _, PySem.W.mg_of X G aD2, kD2, ok__law_draw FD2 Z, bD2⟩
  have D__law_names : Df l.prog w K mg base "_law_names" 2 ["_law_source_here", "_law_many"] _ := ⟨fD3, _, PySem.W.mg_of X G aD3, kD3, ok__law_names FD3 Z D__law_draw, bD3⟩
  have D__law_alike := alike_all (P := l.prog) (w := w) (base := base) FD4 Z (PySem.W.mg_of X G aD4) bD4 2
  have D__law_no_name : Df l.prog w K mg base "_law_no_name" 2 ["_law_source_here", "_law_names_here"] _ := ⟨fD5, _, PySem.W.mg_of X G aD5, kD5, ok_no_name FD5 Z D__law_draw, bD5⟩
  have D__law_spoilt : Df l.prog w K mg base "_law_spoilt" 3 ["_law_source_here", "_law_names_here"] _ := ⟨fD6, _, PySem.W.mg_of X G aD6, kD6, ok_spoilt FD6 Z D__law_draw D__law_no_name, bD6⟩
  have D__law_is_name : Df l.prog w K mg base "_law_is_name" 1 ["_law_word"] _ := ⟨fD7, _, PySem.W.mg_of X G aD7, kD7, ok_law_is_name FD7 Z, bD7⟩
  have D__law_expected : Df l.prog w K mg base "_law_expected" 2 ["_law_presses", "_law_lights", "_law_table_here"] _ := ⟨fD8, _, PySem.W.mg_of X G aD8, kD8, ok_expected FD8 Z D__law_is_name, bD8⟩
  have D__law_table : Df l.prog w K mg base "_law_table" 2 ["_law_source_here", "_law_presses"] _ := ⟨fD10, _, PySem.W.mg_of X G aD10, kD10, ok_table FD10 Z D__law_draw, bD10⟩
  have D_is_index : Df l.prog w K mg base "is_index" 1 ["number", "count"] _ := ⟨fD12, _, PySem.W.mg_of X G aD12, kD12, ok_is_index FD12, bD12⟩
  have D_is_name : Df l.prog w K mg base "is_name" 1 ["text"] _ := ⟨fD13, _, PySem.W.mg_of X G aD13, kD13, ok_is_name FD13 Z g_LETTERS g_LONGEST_NAME, bD13⟩
  have R_InvalidName : Er l.prog w K mg base "InvalidName" CI := ⟨fE, _, X_InvalidName, ok_err_init FE, bE⟩
  have R_DoubleName : Er l.prog w K mg base "DoubleName" CD := ⟨fE, _, X_DoubleName, ok_err_init FE, bE⟩
  have R_UnknownButton : Er l.prog w K mg base "UnknownButton" CB := ⟨fE, _, X_UnknownButton, ok_err_init FE, bE⟩
  have R_InvalidStep : Er l.prog w K mg base "InvalidStep" CS := ⟨fE, _, X_InvalidStep, ok_err_init FE, bE⟩
  have R_UnknownLamp : Er l.prog w K mg base "UnknownLamp" CL := ⟨fE, _, X_UnknownLamp, ok_err_init FE, bE⟩
  have D_check_names : Dx l.prog w K mg base "check_names" 3 ["names"] _ := ⟨fD14, _, PySem.W.mg_of X G aD14, kD14, ok_check_names FD14 D_is_name R_InvalidName R_DoubleName, bD14⟩
  have D_check_buttons : Dx l.prog w K mg base "check_buttons" 3 ["buttons", "known"] _ := ⟨fD15, _, PySem.W.mg_of X G aD15, kD15, ok_check_buttons FD15 R_UnknownButton, bD15⟩
  have D_check_lamps : Dx l.prog w K mg base "check_lamps" 3 ["lamps", "known"] _ := ⟨fD16, _, PySem.W.mg_of X G aD16, kD16, ok_check_lamps FD16 R_UnknownLamp, bD16⟩
  have D_check_steps : Dx l.prog w K mg base "check_steps" 4 ["buttons", "lamps", "count", "state", "steps"] _ := ⟨fD17, _, PySem.W.mg_of X G aD17, kD17, ok_check_steps FD17 Z D_is_index D_check_buttons D_check_lamps R_InvalidStep, bD17⟩
  have D_kept_steps : Df l.prog w K mg base "kept_steps" 1 ["lamps", "steps"] _ := ⟨fD18, _, PySem.W.mg_of X G aD18, kD18, ok_kept_steps FD18 Z, bD18⟩
  have M_Device : Mkx l.prog w K mg base "Device" C 5 ["self", "buttons", "lamps", "states"] (spDevI C ⟨CI, CD, CB, CS, CL⟩) := ⟨fV, _, ⟨mkC, inC, isC, kcC⟩, PySem.W.mg_of X G gC, ok_dev_init FV Z T D_check_names D_check_steps D_kept_steps, bV⟩
  have D__law_told : Df l.prog w K mg base "_law_told" 7 ["_law_presses", "_law_lights", "_law_table_here"] _ := ⟨fD9, _, PySem.W.mg_of X G aD9, kD9, ok_told FD9 Z M_Device EX X_InvalidName X_DoubleName X_UnknownButton X_InvalidStep X_UnknownLamp, bD9⟩
  have Q_buttons : Pr l.prog w K mg base C "buttons" 1 (spBtn C) := ⟨pB, fPB, _, ⟨paB, pgB, ptB, _, prB⟩, ok_dev_buttons FPB Z T, bPB⟩
  have Q_lamps : Pr l.prog w K mg base C "lamps" 1 (spLmp C) := ⟨pL, fPL, _, ⟨paL, pgL, ptL, _, prL⟩, ok_dev_lamps FPL Z T, bPL⟩
  exact ok_law FD11 Z T M_Device D__law_cell_at D__law_source D__law_draw D__law_names D__law_table D__law_spoilt D__law_expected D__law_told D__law_alike Q_buttons Q_lamps
theorem int_bits {z : Int} (h : PySem.Builtin.Int.intBits z ≤ 1048576) : z.natAbs < 2 ^ 1100000 := by
  unfold PySem.Builtin.Int.intBits at h
  refine Nat.lt_of_lt_of_le (m := 2 ^ 1048577) ?_ (Nat.pow_le_pow_right (n := 2) (by decide) (by decide : 1048577 ≤ 1100000))
  by_cases h0 : z = 0
  · rw [h0]
    exact Nat.pow_pos (by decide)
  · rw [if_neg (by simpa using h0)] at h
    exact Nat.lt_of_lt_of_le (Nat.lt_log2_self (n := z.natAbs)) (Nat.pow_le_pow_right (by decide) (by omega))
theorem walk {l : PySem.W.OpenLaw} {q : Program} {loose : List Str} {XP : (Str → Option Value) → Heap → Prop} {YP : World → Heap → Prop} {d : DefRec} {K : Params → PySem.W.Frag} (hn : l.most = some 63) (hdf : d.params.defaults = [])
    (hY : ∀ (w : World) (h : Heap), YP w h → (K w.params).In h)
    (F : ∀ (w : World) (mg : Str → Option Value) (fa : Addr) (h : Heap), (K w.params).In h → h.Ns mainGlobals mg → mg d.name = some (.ref fa) →
      ∃ fd : FuncData, (∀ (s : Shared) (u : Value), BindsTo s fd ⟨[u], []⟩ [("_law_script", u)]) ∧ ∀ base : Heap, (K w.params).In base → base.Ns mainGlobals mg → FnOk l.prog w (K w.params) mg base CX0 8 fa fd ["_law_script"] (spLaw (K w.params))) :
    PySem.W.WalkO q loose XP YP l.row.toRowW d [] (fun f vs => PySem.call f vs) :=
  L2.walk_ofB (n := 63) (k := 8) (x := "_law_script") (CX := fun _ => CX0) (sp := fun w => spLaw (K w.params)) hn (by decide) hdf ⟨rfl, by decide, by decide⟩ hY F (fun _ _ a ns hl hb _ hS => ⟨a, ns, rfl, hS, hl, fun z hz => int_bits (hb z hz), fun _ => rfl⟩) fun _ _ _ _ _ z => z

end
end Toy
open PySem PySem.W PyProof.Rows in
set_option maxRecDepth 100000 in
set_option maxHeartbeats 0 in
theorem PySem.Challenge.cw_surepresses_k05_names_refused_holds : PySem.Challenge.rw_surepresses_k05_names_refused.Holds := by
  w_on; o_law; k_head; (case hw => w_witness2)
  k_fill
  refine Toy.walk (l := PySem.Challenge.rw_surepresses_k05_names_refused) rfl rfl (fun w h Y => PySem.W.kIn_of Y) ?F
  case F =>
    intro w mg fa h KX G hmg
    refine' Toy.all_mk KX G hmg ?aD0 ?lD0 ?cD0 ?kD0 ?aD1 ?lD1 ?cD1 ?kD1 ?aD2 ?lD2 ?cD2 ?kD2 ?aD3 ?lD3 ?cD3 ?kD3 ?aD4 ?lD4 ?cD4 ?kD4 ?aD5 ?lD5 ?cD5 ?kD5 ?aD6 ?lD6 ?cD6 ?kD6 ?aD7 ?lD7 ?cD7 ?kD7 ?aD8 ?lD8 ?cD8 ?kD8 ?aD9 ?lD9 ?cD9 ?kD9 ?aD10 ?lD10 ?cD10 ?kD10 ?aD11 ?lD11 ?cD11 ?kD11 ?aD12 ?lD12 ?cD12 ?kD12 ?aD13 ?lD13 ?cD13 ?kD13 ?aD14 ?lD14 ?cD14 ?kD14 ?aD15 ?lD15 ?cD15 ?kD15 ?aD16 ?lD16 ?cD16 ?kD16 ?aD17 ?lD17 ?cD17 ?kD17 ?aD18 ?lD18 ?cD18 ?kD18 ?zint ?zabs ?zlen ?zrange ?zmax ?zmin ?zlist ?ztuple ?zsorted ?zall ?zenumerate ?zisinstance ?zbool ?zstr ?kLET ?kLON ?lE ?cE ?kE ?tyE ?gI ?xI ?rvI ?saI ?exI ?tyI ?kcI ?inI ?noI ?gaI ?ggI ?hdI ?gD ?xD ?rvD ?saD ?exD ?tyD ?kcD ?inD ?noD ?gaD ?ggD ?hdD ?gB ?xB ?rvB ?saB ?exB ?tyB ?kcB ?inB ?noB ?gaB ?ggB ?hdB ?gS ?xS ?rvS ?saS ?exS ?tyS ?kcS ?inS ?noS ?gaS ?ggS ?hdS ?gL ?xL ?rvL ?saL ?exL ?tyL ?kcL ?inL ?noL ?gaL ?ggL ?hdL ?sII ?sDI ?sDD ?sBI ?sBD ?sBB ?sSI ?sSD ?sSB ?sSS ?sLI ?sLD ?sLB ?sLS ?sLL ?gC ?pgC ?hdC ?poC ?saC ?mkC ?kcC ?nbuttons ?nlamps ?nsteps ?inC ?isC ?lV ?cV ?kV ?paB ?pgB ?ptB ?prB ?lPB ?cPB ?kPB ?paL ?pgL ?ptL ?prL ?lPL ?cPL ?kPL
    (case aD0 => first | k_is | rfl)
    (case lD0 => first | k_is | rfl)
    (case cD0 => first | k_is | rfl)
    (case kD0 => first | k_is | rfl)
    (case aD1 => first | k_is | rfl)
    (case lD1 => first | k_is | rfl)
    (case cD1 => first | k_is | rfl)
    (case kD1 => first | k_is | rfl)
    (case aD2 => first | k_is | rfl)
    (case lD2 => first | k_is | rfl)
    (case cD2 => first | k_is | rfl)
    (case kD2 => first | k_is | rfl)
    (case aD3 => first | k_is | rfl)
    (case lD3 => first | k_is | rfl)
    (case cD3 => first | k_is | rfl)
    (case kD3 => first | k_is | rfl)
    (case aD4 => first | k_is | rfl)
    (case lD4 => first | k_is | rfl)
    (case cD4 => first | k_is | rfl)
    (case kD4 => first | k_is | rfl)
    (case aD5 => first | k_is | rfl)
    (case lD5 => first | k_is | rfl)
    (case cD5 => first | k_is | rfl)
    (case kD5 => first | k_is | rfl)
    (case aD6 => first | k_is | rfl)
    (case lD6 => first | k_is | rfl)
    (case cD6 => first | k_is | rfl)
    (case kD6 => first | k_is | rfl)
    (case aD7 => first | k_is | rfl)
    (case lD7 => first | k_is | rfl)
    (case cD7 => first | k_is | rfl)
    (case kD7 => first | k_is | rfl)
    (case aD8 => first | k_is | rfl)
    (case lD8 => first | k_is | rfl)
    (case cD8 => first | k_is | rfl)
    (case kD8 => first | k_is | rfl)
    (case aD9 => first | k_is | rfl)
    (case lD9 => first | k_is | rfl)
    (case cD9 => first | k_is | rfl)
    (case kD9 => first | k_is | rfl)
    (case aD10 => first | k_is | rfl)
    (case lD10 => first | k_is | rfl)
    (case cD10 => first | k_is | rfl)
    (case kD10 => first | k_is | rfl)
    (case aD11 => first | k_is | rfl)
    (case lD11 => first | k_is | rfl)
    (case cD11 => first | k_is | rfl)
    (case kD11 => first | k_is | rfl)
    (case aD12 => first | k_is | rfl)
    (case lD12 => first | k_is | rfl)
    (case cD12 => first | k_is | rfl)
    (case kD12 => first | k_is | rfl)
    (case aD13 => first | k_is | rfl)
    (case lD13 => first | k_is | rfl)
    (case cD13 => first | k_is | rfl)
    (case kD13 => first | k_is | rfl)
    (case aD14 => first | k_is | rfl)
    (case lD14 => first | k_is | rfl)
    (case cD14 => first | k_is | rfl)
    (case kD14 => first | k_is | rfl)
    (case aD15 => first | k_is | rfl)
    (case lD15 => first | k_is | rfl)
    (case cD15 => first | k_is | rfl)
    (case kD15 => first | k_is | rfl)
    (case aD16 => first | k_is | rfl)
    (case lD16 => first | k_is | rfl)
    (case cD16 => first | k_is | rfl)
    (case kD16 => first | k_is | rfl)
    (case aD17 => first | k_is | rfl)
    (case lD17 => first | k_is | rfl)
    (case cD17 => first | k_is | rfl)
    (case kD17 => first | k_is | rfl)
    (case aD18 => first | k_is | rfl)
    (case lD18 => first | k_is | rfl)
    (case cD18 => first | k_is | rfl)
    (case kD18 => first | k_is | rfl)
    (case zint => first | k_is | rfl)
    (case zabs => first | k_is | rfl)
    (case zlen => first | k_is | rfl)
    (case zrange => first | k_is | rfl)
    (case zmax => first | k_is | rfl)
    (case zmin => first | k_is | rfl)
    (case zlist => first | k_is | rfl)
    (case ztuple => first | k_is | rfl)
    (case zsorted => first | k_is | rfl)
    (case zall => first | k_is | rfl)
    (case zenumerate => first | k_is | rfl)
    (case zisinstance => first | k_is | rfl)
    (case zbool => first | k_is | rfl)
    (case zstr => first | k_is | rfl)
    (case kLET => first | k_is | rfl)
    (case kLON => first | k_is | rfl)
    (case gI => first | k_is | rfl)
    (case xI => first | k_is | rfl)
    (case rvI => first | rfl | decide +kernel | k_is)
    (case saI => first | k_is | rfl)
    (case exI => first | k_is | rfl)
    (case tyI => first | k_is | rfl)
    (case kcI => first | k_is | rfl)
    (case inI => first | k_is | rfl)
    (case noI => first | k_is | rfl)
    (case gaI => first | k_is | rfl)
    (case ggI => first | k_is | rfl)
    (case hdI => first | k_is | rfl)
    (case gD => first | k_is | rfl)
    (case xD => first | k_is | rfl)
    (case rvD => first | rfl | decide +kernel | k_is)
    (case saD => first | k_is | rfl)
    (case exD => first | k_is | rfl)
    (case tyD => first | k_is | rfl)
    (case kcD => first | k_is | rfl)
    (case inD => first | k_is | rfl)
    (case noD => first | k_is | rfl)
    (case gaD => first | k_is | rfl)
    (case ggD => first | k_is | rfl)
    (case hdD => first | k_is | rfl)
    (case gB => first | k_is | rfl)
    (case xB => first | k_is | rfl)
    (case rvB => first | rfl | decide +kernel | k_is)
    (case saB => first | k_is | rfl)
    (case exB => first | k_is | rfl)
    (case tyB => first | k_is | rfl)
    (case kcB => first | k_is | rfl)
    (case inB => first | k_is | rfl)
    (case noB => first | k_is | rfl)
    (case gaB => first | k_is | rfl)
    (case ggB => first | k_is | rfl)
    (case hdB => first | k_is | rfl)
    (case gS => first | k_is | rfl)
    (case xS => first | k_is | rfl)
    (case rvS => first | rfl | decide +kernel | k_is)
    (case saS => first | k_is | rfl)
    (case exS => first | k_is | rfl)
    (case tyS => first | k_is | rfl)
    (case kcS => first | k_is | rfl)
    (case inS => first | k_is | rfl)
    (case noS => first | k_is | rfl)
    (case gaS => first | k_is | rfl)
    (case ggS => first | k_is | rfl)
    (case hdS => first | k_is | rfl)
    (case gL => first | k_is | rfl)
    (case xL => first | k_is | rfl)
    (case rvL => first | rfl | decide +kernel | k_is)
    (case saL => first | k_is | rfl)
    (case exL => first | k_is | rfl)
    (case tyL => first | k_is | rfl)
    (case kcL => first | k_is | rfl)
    (case inL => first | k_is | rfl)
    (case noL => first | k_is | rfl)
    (case gaL => first | k_is | rfl)
    (case ggL => first | k_is | rfl)
    (case hdL => first | k_is | rfl)
    (case sII => first | k_is | rfl)
    (case sDI => first | k_is | rfl)
    (case sDD => first | k_is | rfl)
    (case sBI => first | k_is | rfl)
    (case sBD => first | k_is | rfl)
    (case sBB => first | k_is | rfl)
    (case sSI => first | k_is | rfl)
    (case sSD => first | k_is | rfl)
    (case sSB => first | k_is | rfl)
    (case sSS => first | k_is | rfl)
    (case sLI => first | k_is | rfl)
    (case sLD => first | k_is | rfl)
    (case sLB => first | k_is | rfl)
    (case sLS => first | k_is | rfl)
    (case sLL => first | k_is | rfl)
    (case gC => first | k_is | rfl)
    (case pgC => first | k_is | rfl)
    (case hdC => first | k_is | rfl)
    (case poC => first | k_is | rfl)
    (case saC => first | k_is | rfl)
    (case mkC => first | k_is | rfl)
    (case kcC => first | k_is | rfl)
    (case nbuttons => first | k_is | rfl)
    (case nlamps => first | k_is | rfl)
    (case nsteps => first | k_is | rfl)
    (case inC => first | k_is | rfl)
    (case isC => first | k_is | rfl)
    (case paB => first | k_is | rfl)
    (case pgB => first | k_is | rfl)
    (case ptB => first | k_is | rfl)
    (case prB => first | k_is | rfl)
    (case paL => first | k_is | rfl)
    (case pgL => first | k_is | rfl)
    (case ptL => first | k_is | rfl)
    (case prL => first | k_is | rfl)
    (case lE => first | k_is | rfl)
    (case cE => first | k_is | rfl)
    (case kE => first | k_is | rfl)
    (case tyE => first | k_is | rfl)
    (case lV => first | k_is | rfl)
    (case cV => first | k_is | rfl)
    (case kV => first | k_is | rfl)
    (case lPB => first | k_is | rfl)
    (case cPB => first | k_is | rfl)
    (case kPB => first | k_is | rfl)
    (case lPL => first | k_is | rfl)
    (case cPL => first | k_is | rfl)
    (case kPL => first | k_is | rfl)
