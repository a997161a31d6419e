import PyProof.Rows.All
import Wide.All
import OpenK.AllK
import Wide.FinOn
import KE.KStateDown
import HandS.Base
import HandS.Call
import HandS.List
import HandS.Comp
import HandS.Ends
import HandS.Dict
import HandS.Iter
import HandS.Text
import HandS.StrMore
import HandS.More
import HandS.Words
import HandS.WordsList
import HandS.WordsExc
import HandS.Exc
import HandS.ExcOwn
import HandS.ExcIs
import HandS.TryOnly
import HandS.IsInst
import HandS.Codes
import HandS.Defaults
import HandS.Wide
import HandS.Gcd
import KE.KOpsOwn
import KE.HD0
import KE.HD1
import KE.HD2
import KE.HD3
import HandS.Head0
import HandS.Head1
import HandS.Head2
import HandS.HeadEnd
import HandS.HeadHook1
import HandS.HeadHook2
import HandS.HeadHook3
import HandS.HeadHook4
import Flt.Len
import PyProof.NoPylong
import PySem.Challenge.RW_linkwork_k05_powers
set_option Elab.async false
set_option linter.all false
set_option maxRecDepth 100000
namespace Lk
open PySem PySem.Spec L2
open PyProof.Rows hiding St
/-! ### steps of a reading, from the left -/
section
variable {σ : St} {H : Hp} {Q : VK} {ta tb te : TE} {i : Nat} {v x y : V} {nx : St → Hp → Prop} {rt : VK} {bk ct : St → Hp → Prop} {t u : TS} {c : TT}
theorem r_seq (h : t ⟨fun σ H => u ⟨nx, rt, bk, ct⟩ σ H, rt, bk, ct⟩ σ H) : tSeq t u ⟨nx, rt, bk, ct⟩ σ H := h
theorem r_set (h : te σ H fun x H1 => nx (σ.set i (some x)) H1) : tAsg te (gName i) ⟨nx, rt, bk, ct⟩ σ H := h
theorem r_ret (h : te σ H rt) : tRet te ⟨nx, rt, bk, ct⟩ σ H := h
theorem r_next (h : nx σ H) : tNext ⟨nx, rt, bk, ct⟩ σ H := h
theorem r_drop (h : te σ H fun _ H1 => nx σ H1) : tDrop te ⟨nx, rt, bk, ct⟩ σ H := h
theorem r_if (h : c σ H fun b H1 => if b = true then t ⟨nx, rt, bk, ct⟩ σ H1 else u ⟨nx, rt, bk, ct⟩ σ H1) : tIfS c t u ⟨nx, rt, bk, ct⟩ σ H := h
theorem r_brk (h : bk σ H) : tBreak ⟨nx, rt, bk, ct⟩ σ H := h
theorem r_cont (h : ct σ H) : tCont ⟨nx, rt, bk, ct⟩ σ H := h
theorem r_var (e : σ[i]? = some (some v)) (h : Q v H) : tVar i σ H Q := ⟨v, e, h⟩
theorem r_c (h : Q v H) : tC v σ H Q := h
theorem r_op {r : R2} (h : ta σ H fun x H1 => tb σ H1 fun y H2 => r x y H2 Q) : tOp r ta tb σ H Q := h
theorem r_un {r : V → Hp → VK → Prop} (h : ta σ H fun x H1 => r x H1 Q) : tUn r ta σ H Q := h
theorem r_I0 {g : Int → Int → V} {i j : Int} (h : Q (g i j) H) : rI0 g (.int i) (.int j) H Q := ⟨i, j, rfl, rfl, h⟩
theorem r_I {C : Int → Int → Prop} {g : Int → Int → V} {i j : Int} (hc : C i j) (h : Q (g i j) H) : rI C g (.int i) (.int j) H Q := ⟨i, j, rfl, rfl, hc, h⟩
theorem r_U {g : Int → V} {i : Int} (h : Q (g i) H) : rU g (.int i) H Q := ⟨i, rfl, h⟩
theorem r_eq (hs : scal x y = true) (h : Q (.bl (decide (x = y))) H) : rEq x y H Q := ⟨hs, h⟩
theorem r_ne (hs : scal x y = true) (h : Q (.bl (!decide (x = y))) H) : rNe x y H Q := ⟨hs, h⟩
theorem r_test {P : Bool → Hp → Prop} (h : te σ H fun x H' => ∃ k, x = .bl k ∧ P k H') : tTest te σ H P := h
theorem r_B {P : Bool → Hp → Prop} (h : te σ H fun x H' => ∃ k, x = .bl k ∧ P k H') : tB te σ H P := h
theorem r_bl {b : Bool} {P : Bool → Prop} (h : P b) : ∃ k, V.bl b = .bl k ∧ P k := ⟨b, rfl, h⟩
theorem r_nilA {P : List V → Hp → Prop} (h : P [] H) : tNil σ H P := h
theorem r_consA {tr : TA} {P : List V → Hp → Prop} (h : te σ H fun x H1 => tr σ H1 fun xs H2 => P (x :: xs) H2) : tCons te tr σ H P := h
theorem r_call {sp : Sp} {dvs : List V} {E : XK} {t : TA} (h : t σ H fun vs H1 => sp (vs ++ dvs) H1 Q E) : tCall sp dvs E t σ H Q := h
theorem r_callS {sp : Sp} {E : St → XK} {t : TA} (h : t σ H fun vs H1 => sp vs H1 Q (E σ)) : tCallS sp E t σ H Q := h
theorem r_CB {r : List V → Hp → VK → Prop} {t : TA} (h : t σ H fun vs H1 => r vs H1 Q) : tCB r t σ H Q := h
theorem r_tup {t : TA} (h : t σ H fun xs H1 => xs.length ≤ sizeLine ∧ ∀ p, H1 p = none → Q (.ref p) (upd H1 p (.tup xs))) : tTup t σ H Q := h
theorem r_lst {t : TA} (h : t σ H fun xs H1 => xs.length ≤ sizeLine ∧ ∀ p, H1 p = none → Q (.ref p) (upd H1 p (.lst xs))) : tLst t σ H Q := h
theorem r_and {u : TT} {P : Bool → Hp → Prop} (h : c σ H fun k H1 => if k = true then u σ H1 P else P false H1) : tAnd c u σ H P := h
theorem r_or {u : TT} {P : Bool → Hp → Prop} (h : c σ H fun k H1 => if k = true then P true H1 else u σ H1 P) : tOr c u σ H P := h
theorem r_not {P : Bool → Hp → Prop} (h : c σ H fun k H1 => P (!k) H1) : tNot c σ H P := h
theorem r_andV (h : ta σ H fun x H1 => ∃ k, x = .bl k ∧ if k = true then tb σ H1 Q else Q (.bl false) H1) : tAndV ta tb σ H Q := h
theorem r_orV (h : ta σ H fun x H1 => ∃ k, x = .bl k ∧ if k = true then Q (.bl true) H1 else tb σ H1 Q) : tOrV ta tb σ H Q := h
theorem r_notV (h : ta σ H fun x H1 => ∃ k, x = .bl k ∧ Q (.bl (!k)) H1) : tNotV ta σ H Q := h
theorem r_ifE (h : c σ H fun k H1 => if k = true then ta σ H1 Q else tb σ H1 Q) : tIf c ta tb σ H Q := h
theorem r_ixL {K : PySem.W.Frag} {p : Addr} {xs : List V} {i : Int} (hs : SqL K H p xs) (ha : atI xs i = some v) (h : Q v H) : rIxL K (.ref p) (.int i) H Q := ⟨p, xs, i, v, rfl, rfl, hs, ha, h⟩
theorem r_ixT {K : PySem.W.Frag} {p : Addr} {xs : List V} {i : Int} (hs : SqT K H p xs) (ha : atI xs i = some v) (h : Q v H) : rIxT K (.ref p) (.int i) H Q := ⟨p, xs, i, v, rfl, rfl, hs, ha, h⟩
theorem r_fld {K : PySem.W.Frag} {f : Str} (h : ta σ H fun x H1 => ∃ a C dx fs v, x = .ref a ∧ H1 a = some (.ins C dx fs) ∧ Cls K C ∧ NoAttr K C f ∧ fs.lookup f = some v ∧ Q v H1) : tFld K ta f σ H Q := h
theorem r_sub {to ti : TE} {ts : TSet} {D : St → Hp → Prop} (h : to σ H fun o H1 => ti σ H1 fun i H2 => ts o i v H2 fun H3 => D σ H3) : gSub to ti ts v σ H D := h
theorem r_asg {g : TG} (h : te σ H fun x H1 => g x σ H1 nx) : tAsg te g ⟨nx, rt, bk, ct⟩ σ H := h
theorem r_setL {D : Hp → Prop} {p : Addr} {xs : List V} {k : Int} {j : Nat} (hp : H p = some (.lst xs)) (hj : ixN xs.length k = some j) (h : D (upd H p (.lst (xs.set j v)))) : rSetL (.ref p) (.int k) v H D := ⟨p, xs, k, j, rfl, rfl, hp, hj, h⟩
theorem r_par {i j : Nat} {ta : TA} (h : ta σ H fun vs H1 => ∃ v w, vs = [v, w] ∧ nx ((σ.set i (some v)).set j (some w)) H1) : tPar i j ta ⟨nx, rt, bk, ct⟩ σ H := h
theorem r_par2 {v w : V} {P : V → V → Prop} (h : P v w) : ∃ a b, [v, w] = [a, b] ∧ P a b := ⟨v, w, rfl, h⟩
theorem ite_d {p A B : Prop} [Decidable p] (h1 : p → A) (h2 : ¬ p → B) : if decide p = true then A else B := by
  by_cases h : p
  · rw [if_pos (decide_eq_true h)]; exact h1 h
  · rw [if_neg (by simp [h])]; exact h2 h
theorem ite_nd {p A B : Prop} [Decidable p] (h1 : ¬ p → A) (h2 : p → B) : if (!decide p) = true then A else B := by
  by_cases h : p
  · rw [if_neg (by simp [h])]; exact h2 h
  · rw [if_pos (by simp [h])]; exact h1 h
theorem ite_b {b : Bool} {A B : Prop} (h1 : b = true → A) (h2 : b = false → B) : if b = true then A else B := by
  cases b with
  | true => exact if_pos rfl ▸ h1 rfl
  | false => exact if_neg Bool.false_ne_true ▸ h2 rfl
theorem vint_inj {i j : Int} (h : V.int i = V.int j) : i = j := V.int.inj h
theorem vint_ne {i j : Int} (h : ¬ V.int i = V.int j) : ¬ i = j := fun e => h (congrArg V.int e)
theorem vstr_inj {i j : Str} (h : V.str i = V.str j) : i = j := V.str.inj h
end
/-- a module's constant -/
theorem pe_globE {X : Cx} {x : Str} {v : V} {pos : Pos} (hg : Gl X x) (h : ∃ u, X.mg x = some u ∧ RelV v u) (hd : (x == ("__debug__" : Str)) = false := by decide) : PE X (.Name x pos) (tC v) := by
  obtain ⟨u, hm, r⟩ := h
  exact pe_glob hg hm r hd
/-- // of any divisor but 0 below 2 ^ 9000 -/
def CDivG (_ j : Int) : Prop := j ≠ 0 ∧ j.natAbs.log2 < 9000
theorem op_fdivG {X : Cx} : OpR X (binaryOp .FloorDiv) (rI CDivG fun i j => .int (i.fdiv j)) := opI fun i j _ _ _ _ _ hc q => floordiv_int hc.1 q (.inl (PyProof.noPylong_of_log2 hc.2))
theorem cdivG {i j : Int} {b : Nat} (h : j ≠ 0) (hb : j.natAbs < 2 ^ b) (h0 : 0 < b) (h9 : b ≤ 9000) : CDivG i j := ⟨h, Nat.lt_of_lt_of_le (PySem.Flt.log2_lt_of h0 hb) h9⟩
theorem r_int1 {H : Hp} {Q : VK} {i : Int} (h : Q (.int i) H) : (∃ j, [V.int i] = [.int j] ∧ Q (.int j) H) ∨ ∃ k, [V.int i] = [.bl k] ∧ Q (.int (if k then 1 else 0)) H := .inl ⟨i, rfl, h⟩
theorem r_intB {H : Hp} {Q : VK} {k : Bool} (h : Q (.int (if k then 1 else 0)) H) : (∃ j, [V.bl k] = [.int j] ∧ Q (.int j) H) ∨ ∃ k', [V.bl k] = [.bl k'] ∧ Q (.int (if k' then 1 else 0)) H := .inr ⟨k, rfl, h⟩
theorem r_abs {H : Hp} {Q : VK} {i : Int} (h : Q (.int (if i < 0 then -i else i)) H) : ∃ j, [V.int i] = [.int j] ∧ Q (.int (if j < 0 then -j else j)) H := ⟨i, rfl, h⟩
/-! ### one step, at the goal's head -/

theorem r_lenL {K : PySem.W.Frag} {H : Hp} {Q : VK} {p : Addr} {ys : List V} (hs : SqL K H p ys) (h : Q (.int ys.length) H) : ∃ q zs, [V.ref p] = [.ref q] ∧ (SqL K H q zs ∨ SqT K H q zs) ∧ Q (.int zs.length) H := ⟨p, ys, rfl, .inl hs, h⟩
theorem r_lenT {K : PySem.W.Frag} {H : Hp} {Q : VK} {p : Addr} {ys : List V} (hs : SqT K H p ys) (h : Q (.int ys.length) H) : ∃ q zs, [V.ref p] = [.ref q] ∧ (SqL K H q zs ∨ SqT K H q zs) ∧ Q (.int zs.length) H := ⟨p, ys, rfl, .inr hs, h⟩
theorem r_listL {K : PySem.W.Frag} {H : Hp} {Q : VK} {p : Addr} {ys : List V} (hs : SqL K H p ys) (h : ∀ l, H l = none → Q (.ref l) (upd H l (.lst ys))) : ∃ q zs, [V.ref p] = [.ref q] ∧ (SqL K H q zs ∨ SqT K H q zs) ∧ ∀ l, H l = none → Q (.ref l) (upd H l (.lst zs)) := ⟨p, ys, rfl, .inl hs, h⟩
theorem r_sfld {K : PySem.W.Frag} {ta tv : TE} {f : Str} {nx : St → Hp → Prop} {rt : VK} {bk ct : St → Hp → Prop} {σ : St} {H : Hp}
    (h : tv σ H fun y H1 => ta σ H1 fun x H2 => ∃ a C dx fs, x = .ref a ∧ H2 a = some (.ins C dx fs) ∧ Cls K C ∧ NoAttr K C f ∧ fs.length < 1000 ∧ nx σ (upd H2 a (.ins C dx (putF f y fs)))) : sFld K ta tv f ⟨nx, rt, bk, ct⟩ σ H := h
/-! ### how large an int is -/
def Bits (b : Nat) (i : Int) : Prop := i.natAbs < 2 ^ b
theorem Bits.mono {a b : Nat} {i : Int} (h : Bits a i) (l : a ≤ b) : Bits b i := Nat.lt_of_lt_of_le h (Nat.pow_le_pow_right (by decide) l)
theorem Bits.mul {a b : Nat} {i j : Int} (h : Bits a i) (g : Bits b j) : Bits (a + b) (i * j) := wide_lt h g
theorem Bits.add {a b c : Nat} {i j : Int} (h : Bits a i) (g : Bits b j) (l1 : a < c) (l2 : b < c) : Bits c (i + j) := by
  have h2 : i.natAbs < 2 ^ (c - 1) := Bits.mono (b := c - 1) h (by omega)
  have g2 : j.natAbs < 2 ^ (c - 1) := Bits.mono (b := c - 1) g (by omega)
  have e : 2 ^ c = 2 ^ (c - 1) + 2 ^ (c - 1) := by
    obtain ⟨k, rfl⟩ : ∃ k, c = k + 1 := ⟨c - 1, by omega⟩
    rw [Nat.add_sub_cancel, Nat.pow_succ]
    omega
  show (i + j).natAbs < 2 ^ c
  rw [e]
  have := Int.natAbs_add_le i j
  omega
theorem Bits.neg {a : Nat} {i : Int} (h : Bits a i) : Bits a (-i) := by
  show (-i).natAbs < _
  rw [Int.natAbs_neg]
  exact h
theorem Bits.sub {a b c : Nat} {i j : Int} (h : Bits a i) (g : Bits b j) (l1 : a < c) (l2 : b < c) : Bits c (i - j) := by
  rw [Int.sub_eq_add_neg]
  exact Bits.add h g.neg l1 l2
theorem Bits.small {i : Int} {b : Nat} (h : i.natAbs < 18446744073709551616) (l : 64 ≤ b) : Bits b i := Bits.mono (a := 64) (show i.natAbs < 2 ^ 64 from h) l
theorem Bits.mulW {a b : Nat} {i j : Int} (h : Bits a i) (g : Bits b j) (l : a + b + 2 ≤ 1000000) : CMulW i j := wide_mul (h.mono (Nat.le_succ a)) (g.mono (Nat.le_succ b)) (Nat.succ_pos _) (Nat.succ_pos _) (by omega)
theorem Bits.divG {b : Nat} {i j : Int} (h : j ≠ 0) (g : Bits b j) (l : b + 1 ≤ 9000) : CDivG i j := cdivG h (g.mono (Nat.le_succ b)) (Nat.succ_pos _) l
theorem Bits.of_le {b : Nat} {i j : Int} (h : i.natAbs ≤ j.natAbs) (g : Bits b j) : Bits b i := Nat.lt_of_le_of_lt h g
theorem ite_nt {A B : Prop} (h : B) : if (!true) = true then A else B := iteF h
theorem ite_nf {A B : Prop} (h : A) : if (!false) = true then A else B := iteT h
/-! ### the law's stream: a list of the script's copy and three ints; told as ONE thing, so that a draw leaves the abstract heap as it is -/
def okS (j k : Int) : Prop := 0 ≤ j ∧ 0 ≤ k ∧ k < 2147483648
def phiS (s l : Addr) : Heap → Prop := fun h => ∃ (i j k : Int) (t u v : Tok) (n : Nat), h.get? s = some { cls := .type "list", data := .seq #[.ref l, .int i t, .int j u, .int k v] n } ∧ okS j k
def Strm (H : Hp) (s : Addr) : Prop := ∃ (l : Addr) (ns : List Int), H s = some (.ext (phiS s l)) ∧ H l = some (.lst (ns.map V.int)) ∧ ns.length ≤ 63
theorem Strm.mono {H H' : Hp} {s : Addr} (h : Strm H s) (e : Same H H') : Strm H' s := by
  obtain ⟨l, ns, h1, h2, h3⟩ := h
  exact ⟨l, ns, e _ _ h1, e _ _ h2, h3⟩
def cellsV (l : Addr) (i j k : Int) : List V := [.ref l, .int i, .int j, .int k]
theorem Vals.cells {l : Addr} {i j k : Int} {us : List Value} (h : Vals (cellsV l i j k) us) : ∃ t u v, us = [.ref l, .int i t, .int j u, .int k v] := by
  unfold cellsV at h
  cases h with
  | cons r0 h => cases h with
    | cons r1 h => cases h with
      | cons r2 h => cases h with
        | cons r3 h =>
          cases h
          obtain ⟨t, rfl⟩ := r1
          obtain ⟨u, rfl⟩ := r2
          obtain ⟨v, rfl⟩ := r3
          cases (show _ = Value.ref l from r0)
          exact ⟨t, u, v, rfl⟩
section
variable {X : Cx} {pins : List (Addr × Obj)} {σ : St} {H : Hp} {s : Shared} {a l : Addr}
/-- the abstract heap is told otherwise at one address, the heap stays -/
theorem Inv.retell {o o' : HO} (I : Inv X pins σ H s) (ha : H a = some o) (m : Mut (some o)) (m' : Mut (some o')) (new : ObjOk X.prog X.w (upd H a o') s.heap a o') : Inv X pins σ (upd H a o') s := by
  have hx : ∀ b u, H b = some u → ¬ Mut (some u) → b ≠ a := fun b u e nm z => by
    rw [z, ha] at e
    cases e
    exact nm m
  have un : Un X.fs [] H (upd H a o') s.heap s.heap := ⟨fun _ _ e _ _ _ => e, fun b ob e _ _ _ => ⟨ob.slots, e⟩, fun b ob e n _ => by
      rw [upd_ne (show b ≠ a from fun z => by rw [z, ha] at n; cases n)]; exact n, fun b ob e _ => ⟨ob, e⟩,
    fun b xs e => by rw [upd_ne (hx b _ e fun z => z)]; exact e, fun b ob u e => by rw [upd_ne (hx b _ e fun z => z)]; exact e, fun b ps e => ⟨#[], by rw [upd_ne (hx b _ e fun z => z), e]; simp⟩⟩
  have mu : Mut (H a) := by rw [ha]; exact m
  have hk : HOk X.prog X.w (upd H a o') s.heap := by
    obtain ⟨u, hu⟩ := objOk_get (I.hok a _ ha)
    exact I.hok.write mu (.inl rfl) (fun _ _ _ e => e) ⟨u, hu⟩ new
  exact I.un (h' := s.heap) (t' := s.toks) un hk
theorem phi_open {h : Heap} (P : Program) (w : World) (H : Hp) (x : ObjOk P w H h a (.ext (phiS a l))) : ∃ i j k : Int, okS j k ∧ ObjOk P w (upd H a (.lst (cellsV l i j k))) h a (.lst (cellsV l i j k)) := by
  obtain ⟨⟨i, j, k, t, u, v, n, e, hj⟩, _⟩ := x
  exact ⟨i, j, k, hj, (by show 4 ≤ sizeLine; decide), _, n, .cons rfl (.cons ⟨t, rfl⟩ (.cons ⟨u, rfl⟩ (.cons ⟨v, rfl⟩ .nil))), e⟩
theorem phi_close {h : Heap} {P : Program} {w : World} {H H' : Hp} {i j k : Int} (x : ObjOk P w H h a (.lst (cellsV l i j k))) (hj : okS j k) : ObjOk P w H' h a (.ext (phiS a l)) := by
  obtain ⟨_, its, n, r, e⟩ := x
  obtain ⟨t, u, v, rfl⟩ := Vals.cells r
  refine ⟨⟨i, j, k, t, u, v, n, e, hj⟩, ⟨_, e⟩, fun h1 h2 ⟨i, j, k, t, u, v, n, e, hj⟩ st => ⟨i, j, k, t, u, v, n, st _ e, hj⟩⟩
/-- within: the stream's four cells are told; behind: one thing again -/
def shutS (a l : Addr) (N : St → Hp → Prop) : St → Hp → Prop := fun σ H => ∃ i j k : Int, H a = some (.lst (cellsV l i j k)) ∧ okS j k ∧ N σ (upd H a (.ext (phiS a l)))
def shutV (a l : Addr) (N : VK) : VK := fun v H => ∃ i j k : Int, H a = some (.lst (cellsV l i j k)) ∧ okS j k ∧ N v (upd H a (.ext (phiS a l)))
def tOpen (a l : Addr) (t : TS) : TS := fun D σ H => H a = some (.ext (phiS a l)) ∧ ∀ i j k : Int, okS j k → t ⟨shutS a l D.nx, shutV a l D.rt, shutS a l D.bk, shutS a l D.ct⟩ σ (upd H a (.lst (cellsV l i j k)))
theorem Inv.shut {i j k : Int} (I : Inv X pins σ H s) (ha : H a = some (.lst (cellsV l i j k))) (hj : okS j k) : Inv X pins σ (upd H a (.ext (phiS a l))) s :=
  Inv.retell I ha trivial trivial (phi_close (I.hok a _ ha) hj)
theorem r_open {t : TS} {nx : St → Hp → Prop} {rt : VK} {bk ct : St → Hp → Prop} (h : H a = some (.ext (phiS a l))) (k : ∀ i j k : Int, okS j k → t ⟨shutS a l nx, shutV a l rt, shutS a l bk, shutS a l ct⟩ σ (upd H a (.lst (cellsV l i j k)))) : tOpen a l t ⟨nx, rt, bk, ct⟩ σ H := ⟨h, k⟩
theorem pss_open {body : List Stmt} {t : TS} (a l : Addr) (h : PSs X body t) : PSs X body (tOpen a l t) := by
  refine ⟨fun pins s σ H D I q => ?_⟩
  obtain ⟨ha, q⟩ := q
  obtain ⟨i, j, k, hj, ok⟩ := phi_open (a := a) (l := l) X.prog X.w H (I.hok a _ ha)
  refine thn (h.run pins s σ _ _ (Inv.retell (o' := .lst (cellsV l i j k)) I ha trivial trivial ok) (q i j k hj)) fun f s1 z => ?_
  cases f with
  | next =>
    obtain ⟨σ', H', I', i, j, k, e, hj, n⟩ := z
    exact ⟨σ', _, Inv.shut I' e hj, n⟩
  | brk =>
    obtain ⟨σ', H', I', i, j, k, e, hj, n⟩ := z
    exact ⟨σ', _, Inv.shut I' e hj, n⟩
  | cont =>
    obtain ⟨σ', H', I', i, j, k, e, hj, n⟩ := z
    exact ⟨σ', _, Inv.shut I' e hj, n⟩
  | ret u =>
    obtain ⟨v, σ', H', I', r, i, j, k, e, hj, n⟩ := z
    exact ⟨v, σ', _, Inv.shut I' e hj, r, n⟩
/-- a list of four is told as a stream where it is handed back -/
def tShut (t : TS) : TS := fun D σ H => t ⟨D.nx, fun v H' => ∃ (a l : Addr) (i j k : Int), v = .ref a ∧ H' a = some (.lst (cellsV l i j k)) ∧ okS j k ∧ D.rt v (upd H' a (.ext (phiS a l))), D.bk, D.ct⟩ σ H
theorem r_shut {t : TS} {nx : St → Hp → Prop} {rt : VK} {bk ct : St → Hp → Prop} (h : t ⟨nx, fun v H' => ∃ (a l : Addr) (i j k : Int), v = .ref a ∧ H' a = some (.lst (cellsV l i j k)) ∧ okS j k ∧ rt v (upd H' a (.ext (phiS a l))), bk, ct⟩ σ H) : tShut t ⟨nx, rt, bk, ct⟩ σ H := h
theorem pss_shut {body : List Stmt} {t : TS} (h : PSs X body t) : PSs X body (tShut t) := by
  refine ⟨fun pins s σ H D I q => ?_⟩
  refine thn (h.run pins s σ _ _ I q) fun f s1 z => ?_
  cases f with
  | ret u =>
    obtain ⟨v, σ', H', I', r, a, l, i, j, k, rfl, e, hj, n⟩ := z
    exact ⟨_, σ', _, Inv.shut I' e hj, r, n⟩
  | next => exact z
  | brk => exact z
  | cont => exact z
end
/-- what the stream leaves behind is the heap ahead -/
theorem upd_back {H : Hp} {a : Addr} {o o' : HO} (h : H a = some o') : upd (upd H a o) a o' = H := by
  funext b
  by_cases e : b = a
  · rw [e, upd_same, h]
  · rw [upd_ne e, upd_ne e]
theorem upd_back2 {H : Hp} {a : Addr} {o o1 o' : HO} (h : H a = some o') : upd (upd (upd H a o) a o1) a o' = H := by
  rw [upd_upd, upd_back h]
theorem upd_back3 {H : Hp} {a : Addr} {o o1 o2 o' : HO} (h : H a = some o') : upd (upd (upd (upd H a o) a o1) a o2) a o' = H := by
  rw [upd_upd, upd_upd, upd_back h]
/-! ### C(..) where what its __init__ raises is wished for at the slots -/
section
variable {X : Cx} {CX : CXT} {k : Nat} {f C : Addr} {fd : FuncData} {ps : List Str} {sp : Sp} {dvs : List V} {ds : List Value} {E : St → XK} {x : Str} {p pos : Pos} {e : Expr} {es : List Expr} {t : TA}
def tMakeS (C : Addr) (sp : Sp) (dvs : List V) (E : St → XK) (t : TA) : TE := fun σ H Q => t σ H fun vs H1 => ∀ x dx, H1 x = none → H1 dx = none → dx ≠ x →
  sp (.ref x :: (vs ++ dvs)) (upd (upd H1 dx (.own x)) x (.ins C dx [])) (fun v H2 => v = .non ∧ Q (.ref x) H2) (E σ)
theorem make_atS {pins : List (Addr × Obj)} {σ : St} {H : Hp} {s : Shared} {Q : VK} {us : List Value} {vs : List V} (mk : Mk X.K C f) (ok : FnOk X.prog X.w X.K X.mg X.base CX k f fd ps sp) (room : Room (k + 1) X.A) (bd : Binds X.K fd ps ds) (dv : Vals dvs ds)
    (pass : PassesAt CX X σ (E σ)) (I : Inv X pins σ H s) (rel : Vals vs us)
    (ask : ∀ x dx, H x = none → H dx = none → dx ≠ x → sp (.ref x :: (vs ++ dvs)) (upd (upd H dx (.own x)) x (.ins C dx [])) (fun v H2 => v = .non ∧ Q (.ref x) H2) (E σ)) :
    wpAny (model X.prog X.w) X.A (call (.ref C) us) (EP X pins σ Q) X.xe s := by
  let n := s.heap.objs.size
  have want := ask (n + 1) n (I.hok.fresh (Nat.le_succ _)) (I.hok.fresh (Nat.le_refl _)) (by show n ≠ n + 1; omega)
  have J := Inv.made (C := C) I
  have relS : Vals (V.ref (n + 1) :: (vs ++ dvs)) (Value.ref (n + 1) :: (us ++ ds)) := .cons rfl (rel.append dv)
  have many : (Value.ref (n + 1) :: us ++ ds).length = ps.length := relS.length.symm.trans (ok.len _ _ _ _ want)
  have go := ok.run _ X.stack _ _ ⟨Value.ref (n + 1) :: us, []⟩ (Value.ref (n + 1) :: (us ++ ds)) _ _ (E σ) (room.make C us []) (J.env0.make C us []) (bd _ (Value.ref (n + 1) :: us) J.kIn many) relS want
  refine wpAny_call (make_map (f := f) I.kIn mk.makes mk.init (beq_iff_eq.mp mk.fn) (codeAny_mono go fun out s' end_ => ?_))
  match out, end_ with
  | .error e, end_ => exact pass pins _ _ e s' J end_
  | .ok (.ret u), end_ =>
    obtain ⟨v, H', I3, rv, ev, q3⟩ := J.after end_
    cases ev
    exact ⟨rv, V.ref (n + 1), H', I3, rfl, q3⟩
  | .ok .next, end_ => exact end_.elim
  | .ok .brk, end_ => exact end_.elim
  | .ok .cont, end_ => exact end_.elim
theorem pe_makeS (mk : Mk X.K C f) (ok : FnOk X.prog X.w X.K X.mg X.base CX k f fd ps sp) (room : Room (k + 1) X.A) (gl : Gl X x) (gm : X.mg x = some (.ref C)) (bd : Binds X.K fd ps ds) (dv : Vals dvs ds) (pass : ∀ σ, PassesAt CX X σ (E σ))
    (args : PA X (e :: es) t) (d1 : (x == ("__debug__" : Str)) = false := by decide) (d2 : starEach (e :: es) X.env = (false, eval e X.env) :: starEach es X.env := by rfl) (d3 : (backTo pos (starEach es X.env)).any (·.1) = false := by rfl) :
    PE X (.Call (.Name x p) (e :: es) [] pos) (tMakeS C sp dvs E t) :=
  ⟨fun pins s σ H Q I h => wpAny_Call_Name_kw (ld_glob I gl gm (PySem.W.callWith_K (h₀ := X.base) I.ok.mod.kin mk.kp (thn (args.run pos pins s σ H _ I h) fun us s1 ⟨vs, H1, I1, r, q⟩ => ⟨I1.kIn, make_atS mk ok room bd dv (pass σ) I1 r q⟩) d2 d3) d1)⟩
theorem passX {E : XK} (tk : Takes X (fun cls d _ H => E cls d H)) : Passes (L2.CX X.prog X.w) X E := fun pins σ H s e s' I c => passes_call tk (fun _ _ _ _ z => z) pins σ H s e s' I c
end
section
variable {σ : St} {H : Hp} {Q : VK} {C : Addr} {sp : Sp} {dvs : List V} {t : TA}
theorem r_make {E : XK} (h : t σ H fun vs H1 => ∀ x dx, H1 x = none → H1 dx = none → dx ≠ x → sp (.ref x :: (vs ++ dvs)) (upd (upd H1 dx (.own x)) x (.ins C dx [])) (fun v H2 => v = .non ∧ Q (.ref x) H2) E) : tMake C sp dvs E t σ H Q := h
theorem r_makeS {E : St → XK} (h : t σ H fun vs H1 => ∀ x dx, H1 x = none → H1 dx = none → dx ≠ x → sp (.ref x :: (vs ++ dvs)) (upd (upd H1 dx (.own x)) x (.ins C dx [])) (fun v H2 => v = .non ∧ Q (.ref x) H2) (E σ)) : tMakeS C sp dvs E t σ H Q := h
end
/-! ### loops -/
def forR (J : It) (g : TG) (tb : TS) (D : Ends) (σ : St) (H : Hp) : Prop := ∃ W : Nat → Nat → St → Hp → Prop, (∃ m, W 0 m σ H) ∧ ∀ i m σ H, W i m σ H →
  (J.stop i H ∧ D.nx σ H) ∨ (J.go i H ∧ ∃ N : St → Hp → Prop, (∀ σ' H', N σ' H' → ∃ m', m' < m ∧ W (i + 1) m' σ' H') ∧ ∀ x H', J.yld i H x H' → g x σ H' fun σ2 H2 => tb { D with nx := N, ct := N, bk := D.nx } σ2 H2)
section
variable {σ : St} {H : Hp} {wi : TI} {g : TG} {tb : TS} {nx : St → Hp → Prop} {rt : VK} {bk ct : St → Hp → Prop} {ta : TA} {tl : TE} {K : PySem.W.Frag} {a : Addr} {xs : List V} {k : Nat} {c : TT}
theorem r_for (h : wi σ H fun J H1 => forR J g tb ⟨nx, rt, bk, ct⟩ σ H1) : tFor wi g tb ⟨nx, rt, bk, ct⟩ σ H := h
theorem r_iRng1 {R : It → Hp → Prop} (h : ta σ H fun vs H1 => ∃ j : Int, vs = [.int j] ∧ -(2 ^ 62) ≤ j ∧ j < 2 ^ 62 ∧ R (Itr 0 j.toNat) H1) : iRng1 ta σ H R := h
theorem r_iList {R : It → Hp → Prop} (h : tl σ H fun x H1 => ∃ a, x = .ref a ∧ (∃ xs, SqL K H1 a xs) ∧ R (Itl K a) H1) : iList K tl σ H R := h
theorem r_rng1 {i : Int} {P : It → Prop} (h1 : -(2 ^ 62) ≤ i) (h2 : i < 2 ^ 62) (h : P (Itr 0 i.toNat)) : ∃ j : Int, [V.int i] = [.int j] ∧ -(2 ^ 62) ≤ j ∧ j < 2 ^ 62 ∧ P (Itr 0 j.toNat) := ⟨i, rfl, h1, h2, h⟩
theorem r_lstI {P : It → Prop} (hs : SqL K H a xs) (h : P (Itl K a)) : ∃ b, V.ref a = .ref b ∧ (∃ xs, SqL K H b xs) ∧ P (Itl K b) := ⟨a, rfl, ⟨xs, hs⟩, h⟩
theorem for_rng {lo : Int} {n : Nat} (Pv : Nat → St → Hp → Prop) (h0 : Pv 0 σ H) (hs : ∀ i σ H, i < n → Pv i σ H → tb ⟨Pv (i + 1), rt, nx, Pv (i + 1)⟩ (σ.set k (some (.int (lo + (i : Int))))) H) (hd : ∀ σ H, Pv n σ H → nx σ H) :
    forR (Itr lo n) (gName k) tb ⟨nx, rt, bk, ct⟩ σ H := for_range (D := ⟨nx, rt, bk, ct⟩) Pv h0 hs hd
theorem for_lst (Pv : Nat → St → Hp → Prop) (h0 : Pv 0 σ H) (hl : ∀ i σ H, i ≤ xs.length → Pv i σ H → SqL K H a xs) (hs : ∀ i x σ H, xs[i]? = some x → Pv i σ H → tb ⟨Pv (i + 1), rt, nx, Pv (i + 1)⟩ (σ.set k (some x)) H) (hd : ∀ σ H, Pv xs.length σ H → nx σ H) :
    forR (Itl K a) (gName k) tb ⟨nx, rt, bk, ct⟩ σ H := for_list (D := ⟨nx, rt, bk, ct⟩) Pv h0 hl hs hd
/-- a while by a word with a measure; behind the test: ⟨_, fun _ _ n => n, ..⟩ -/
theorem r_while (W : Nat → St → Hp → Prop) (m0 : Nat) (h0 : W m0 σ H) (hs : ∀ m σ H, W m σ H → c σ H fun b H1 => if b = true then ∃ N : St → Hp → Prop, (∀ σ' H', N σ' H' → ∃ m', m' < m ∧ W m' σ' H') ∧ tb ⟨N, rt, nx, N⟩ σ H1 else nx σ H1) :
    tWhile c tb ⟨nx, rt, bk, ct⟩ σ H := ⟨W, ⟨m0, h0⟩, hs⟩
theorem r_cut {t u : TS} (Mid : St → Hp → Prop) (h1 : t ⟨Mid, rt, bk, ct⟩ σ H) (h2 : ∀ σ H, Mid σ H → u ⟨nx, rt, bk, ct⟩ σ H) : C8.tCut t u ⟨nx, rt, bk, ct⟩ σ H := ⟨Mid, h1, h2⟩
end
theorem same_new {H : Hp} {p : Addr} {o : HO} (h : H p = none) : Same H (upd H p o) := fun b u e => by rw [upd_ne (ne_of_none e h)]; exact e
theorem same_mk {H : Hp} {x dx : Addr} {o u : HO} (h1 : H x = none) (h2 : H dx = none) : Same H (upd (upd H dx o) x u) := fun b v e => by
  rw [upd_ne (ne_of_none e h1), upd_ne (ne_of_none e h2)]
  exact e
/-! ### facts of the top that the head tells as Bools -/
def excCB (K : PySem.W.Frag) (D : Addr) : Bool := [He.eqO (PySem.W.findIn K (.ref D) "__getattribute__") (some (some (.builtin "BaseException.__getattribute__"))), He.eqO (PySem.W.findIn K (.ref D) "__getattr__") (some none), decide (PySem.W.subIn K (.ref D) (.type "BaseException") = some true),
  PySem.W.hasDictIn K D, He.eqO (PySem.W.findIn K (.ref D) "__class__") (some (some (.builtin "object.__class__"))), He.eqO (PySem.W.specialIn K (.builtin "object.__class__") "__get__") (some (some (.builtin "getset_descriptor.__get__"))),
  decide (PySem.W.takesIn K (.builtin "object.__class__") = some true), decide (PySem.W.mroIn K D (.type "object") = some true)].all id
theorem all8 {b1 b2 b3 b4 b5 b6 b7 b8 : Bool} (h : [b1, b2, b3, b4, b5, b6, b7, b8].all id = true) : b1 = true ∧ b2 = true ∧ b3 = true ∧ b4 = true ∧ b5 = true ∧ b6 = true ∧ b7 = true ∧ b8 = true := by
  simpa using h
theorem excCB_ok {K : PySem.W.Frag} {D : Addr} (h : excCB K D = true) : ExcC K D := by
  obtain ⟨h1, h2, h3, h4, h5, h6, h7, h8⟩ := all8 h
  exact ⟨He.eqO_ok h1, He.eqO_ok h2, of_decide_eq_true h3, h4, He.eqO_ok h5, He.eqO_ok h6, of_decide_eq_true h7, of_decide_eq_true h8⟩
def isiCB (K : PySem.W.Frag) (D : Addr) : Bool := [He.eqO (PySem.W.findIn K (.ref D) "__class__") (some (some (.builtin "object.__class__"))), He.eqO (PySem.W.specialIn K (.builtin "object.__class__") "__get__") (some (some (.builtin "getset_descriptor.__get__"))),
  decide (PySem.W.takesIn K (.builtin "object.__class__") = some true), decide (PySem.W.mroIn K D (.type "object") = some true), true, true, true, true].all id
theorem isi_ins {K : PySem.W.Frag} {H : Hp} {a D dx : Addr} {fs : List (Str × V)} (h : isiCB K D = true) (c : Cls K D) (e : H a = some (.ins D dx fs)) : TyX K H (.ref a) (.ref D) := by
  obtain ⟨h1, h2, h3, h4, _⟩ := all8 h
  exact .base (.ins e c (He.eqO_ok h1) (He.eqO_ok h2) (of_decide_eq_true h3) (of_decide_eq_true h4))
theorem pss_given {X : Cx} {body : List Stmt} {t : TS} {P : Prop} (h : P → PSs X body t) : PSs X body (fun D σ H => P ∧ t D σ H) := ⟨fun pins s σ H D I q => (h q.1).run pins s σ H D I q.2⟩
theorem r_isi {K : PySem.W.Frag} {H : Hp} {Q : VK} {x c : V} {t u : Value} {b : Bool} (hx : TyX K H x t) (hc : ClsV c u) (e : PySem.W.kitOne K t u = some b) (h : Q (.bl b) H) : rIsi K [x, c] H Q := ⟨x, c, t, u, b, rfl, hc, hx, e, h⟩
/-! ### operators that a class of the program's own defines -/
section
variable {X : Cx} {CX : CXT} {n : Nat} {C g : Addr} {fd : FuncData} {ps : List Str} {sp : Sp} {E : XK}
def rBin (C : Addr) (sp : Sp) (E : XK) : R2 := fun x y H Q => ∃ a b dx dy fs gs, x = .ref a ∧ y = .ref b ∧ H a = some (.ins C dx fs) ∧ H b = some (.ins C dy gs) ∧ sp [.ref a, .ref b] H Q E
theorem back_of {R : Value → Shared → Prop} {z : V} {v : Value} {s' : Shared} (r : RelV z v) (h : R v s') : PySem.W.CmpBack R v s' := by
  cases z with
  | non => cases (show v = Value.none from r); exact h
  | bl b => cases (show v = Value.bool b from r); exact h
  | int i => obtain ⟨t, rfl⟩ := (show ∃ t, v = Value.int i t from r); exact h
  | str i => obtain ⟨t, rfl⟩ := (show ∃ t, v = Value.str i t from r); exact h
  | byt i => obtain ⟨t, rfl⟩ := (show ∃ t, v = Value.bytes i t from r); exact h
  | flt i => obtain ⟨t, rfl⟩ := (show ∃ t, v = Value.float i t from r); exact h
  | ref i => cases (show v = Value.ref i from r); exact h
  | ty i => cases (show v = Value.type i from r); exact h
theorem ins_inst {pins : List (Addr × Obj)} {σ : St} {H : Hp} {s : Shared} {a dx : Addr} {fs : List (Str × V)} (I : Inv X pins σ H s) (h : H a = some (.ins C dx fs)) : ∃ od, PySem.W.InstAt s.heap a (PySem.W.instObj C dx) C (some od) := by
  obtain ⟨mA, J, _⟩ := ins_get I.hok h
  obtain ⟨od, J, _⟩ := J.look
  exact ⟨od, J⟩
theorem op_bin {op : Operator} (first : PySem.W.selfFirst X.K C = true) (m : Meth X.K C (PySem.dunder op.info.2) g) (F : FnOk X.prog X.w X.K X.mg X.base CX n g fd ps sp) (bd : Binds X.K fd ps []) (room : Room n X.A) (pass : Passes CX X E) : OpR X (binaryOp op) (rBin C sp E) := by
  intro pins s σ H x y v u Q I rx ry h
  obtain ⟨a, b, dx, dy, fs, gs, rfl, rfl, ha, hb, q⟩ := h
  cases (show v = Value.ref a from rx)
  cases (show u = Value.ref b from ry)
  obtain ⟨od, J⟩ := ins_inst I ha
  obtain ⟨od', J'⟩ := ins_inst I hb
  obtain ⟨mF, hF⟩ := I.fr
  refine PySem.W.binop_K hF I.ok.mod.kin J J'.type first m.at_ m.fn ?_
  refine wpAny_mono (run_fn (vs := [.ref a, .ref b]) (us := [.ref a, .ref b]) F room bd .nil pass I (.cons rfl (.cons rfl .nil)) (by rw [List.append_nil]; exact q)) (fun w s' z => ?_) fun _ _ e => e
  obtain ⟨z', H', I', rz, qz⟩ := z
  exact back_of rz ⟨z', H', I', rz, qz⟩
def rUnO (C : Addr) (sp : Sp) (E : XK) : V → Hp → VK → Prop := fun x H Q => ∃ a dx fs, x = .ref a ∧ H a = some (.ins C dx fs) ∧ sp [.ref a] H Q E
theorem un_negO (m : Meth X.K C "__neg__" g) (F : FnOk X.prog X.w X.K X.mg X.base CX n g fd ps sp) (bd : Binds X.K fd ps []) (room : Room n X.A) (pass : Passes CX X E) : UnR X (unaryOp .USub) (rUnO C sp E) := by
  intro pins s σ H x v Q I rx h
  obtain ⟨a, dx, fs, rfl, ha, q⟩ := h
  cases (show v = Value.ref a from rx)
  obtain ⟨od, J⟩ := ins_inst I ha
  obtain ⟨mF, hF⟩ := I.fr
  exact PySem.W.ksp_neg hF I.ok.mod.kin J m.at_ m.fn (run_fn (vs := [.ref a]) (us := [.ref a]) F room bd .nil pass I (.cons rfl .nil) (by rw [List.append_nil]; exact q))
/-- == by an own __eq__, both answers -/
theorem op_eqO (m : Meth X.K C "__eq__" g) (F : FnOk X.prog X.w X.K X.mg X.base CX n g fd ps sp) (bd : Binds X.K fd ps []) (room : Room n X.A) (pass : Passes CX X E) : OpR X (compareOp .Eq) (rBin C sp E) := by
  intro pins s σ H x y v u Q I rx ry h
  obtain ⟨a, b, dx, dy, fs, gs, rfl, rfl, ha, hb, q⟩ := h
  cases (show v = Value.ref a from rx)
  cases (show u = Value.ref b from ry)
  obtain ⟨od, J⟩ := ins_inst I ha
  obtain ⟨od', J'⟩ := ins_inst I hb
  obtain ⟨mF, hF⟩ := I.fr
  show wpAny (model X.prog X.w) X.A (richCompare .Eq (.ref a) (.ref b)) (EP X pins σ Q) X.xe s
  refine PySem.W.cmp_K (op := .Eq) (tb := .ref C) room.units0 hF I.ok.mod.kin J J'.type (by simp [PySem.W.notFirst]) m.at_ m.fn ?_
  refine wpAny_mono (run_fn (vs := [.ref a, .ref b]) (us := [.ref a, .ref b]) F room bd .nil pass I (.cons rfl (.cons rfl .nil)) (by rw [List.append_nil]; exact q)) (fun w s' z => ?_) fun _ _ e => e
  obtain ⟨z', H', I', rz, qz⟩ := z
  exact back_of rz ⟨z', H', I', rz, qz⟩
end
/-! ### the rules with the written part by its letter -/
section
variable {X : Cx} {K : PySem.W.Frag} {e o : Expr} {f : Str} {pos pos' : Pos} {ta tv : TE} {value : Expr} {tg : Expr} {tl : TE}
theorem ix_listK (h : X.K = K) : IxR X (rIxL K) := by subst h; exact ix_list
theorem ix_tupK (h : X.K = K) : IxR X (rIxT K) := by subst h; exact ix_tup
theorem call_isiK' (h : X.K = K) : CallR X (.builtin "isinstance") (rIsi K) := by subst h; exact call_isi
theorem call_lenK (h : X.K = K) : CallR X (.builtin "len") (fun xs H Q => ∃ p ys, xs = [.ref p] ∧ (SqL K H p ys ∨ SqT K H p ys) ∧ Q (.int ys.length) H) := by subst h; exact call_len_seq
theorem call_listK (h : X.K = K) : CallR X (.type "list") (fun xs H Q => ∃ p ys, xs = [.ref p] ∧ (SqL K H p ys ∨ SqT K H p ys) ∧ ∀ l, H l = none → Q (.ref l) (upd H l (.lst ys))) := by subst h; exact call_list_of
theorem pe_fldK (h : X.K = K) (he : PE X e ta) (hb : attributeBase e f X.env (eval e X.env) = eval e X.env) : PE X (.Attribute e f pos) (tFld K ta f) := by subst h; exact pe_fld he hb
theorem ps_fldK (h : X.K = K) (ha : PE X o ta) (hv : PE X value tv) (hs : swapsWith value (some (.Attribute o f pos')) pos.line X.env = pure false) : PS X (.Assign [.Attribute o f pos'] value pos) (sFld K ta tv f) := by subst h; exact ps_fld ha hv hs
theorem pi_listK (h : X.K = K) (hl : PE X e tl) : PI X tg e (iList K tl) := by subst h; exact pi_list hl
theorem pi_tupK (h : X.K = K) (hl : PE X e tl) : PI X tg e (iTup K tl) := by subst h; exact pi_tup hl
theorem op_eqDK (h : X.K = K) (hu : X.A.units + 64 < cLine) : OpR X (compareOp .Eq) (rEqD K) := by subst h; exact op_eqD hu
theorem op_neDK (h : X.K = K) (hu : X.A.units + 64 < cLine) : OpR X (compareOp .NotEq) (rNeD K) := by subst h; exact op_neD hu
theorem op_inK (h : X.K = K) : OpR X (compareOp .In) (rIn K false) := by subst h; exact op_in_seq
theorem op_notInK (h : X.K = K) : OpR X (compareOp .NotIn) (rIn K true) := by subst h; exact op_notIn_seq
end
/-! ### a tuple of texts that the module holds -/
def strOf : Value → Option Str
  | .str x _ => some x
  | _ => none
def tupStrs (K : PySem.W.Frag) (a : Addr) (xs : List Str) : Bool := match K.lookup a with
  | some ⟨.type "tuple", _, .seq its _, _⟩ => decide (its.toList.map strOf = xs.map some)
  | _ => false
theorem vals_strs : ∀ (us : List Value) (xs : List Str), us.map strOf = xs.map some → Vals (xs.map V.str) us
  | [], [], _ => .nil
  | [], _ :: _, h => by cases h
  | _ :: _, [], h => by cases h
  | u :: us, x :: xs, h => by
    have h1 := (List.cons.inj h).1
    have h2 := (List.cons.inj h).2
    refine .cons ?_ (vals_strs us xs h2)
    cases u with
    | str y t => exact ⟨t, by rw [Option.some.inj h1]⟩
    | _ => cases h1
theorem tupStrs_ok {K : PySem.W.Frag} {H : Hp} {a : Addr} {xs : List Str} (h : tupStrs K a xs = true) (hl : xs.length ≤ 1000) : SqT K H a (xs.map V.str) := by
  unfold tupStrs at h
  split at h
  · rename_i od its n sl hk
    have e := of_decide_eq_true h
    have l := congrArg List.length e
    rw [List.length_map, List.length_map, Array.length_toList] at l
    exact .inr ⟨_, its, n, hk, rfl, rfl, by rw [l, sizeLine_eq]; omega, vals_strs _ _ e⟩
  · cases h
/-! ### one step, at the goal's head -/
local macro_rules | `(tactic| walk_at "go1") => `(tactic| first
  | (with_reducible apply r_seq) | (with_reducible apply r_set) | (with_reducible apply r_if) | (with_reducible apply r_ret) | (with_reducible apply r_next)
  | (with_reducible apply r_op) | (with_reducible apply r_c) | ((with_reducible apply r_var); exact rfl) | (with_reducible apply r_consA) | (with_reducible apply r_nilA)
  | (with_reducible apply r_call) | (with_reducible apply r_callS) | (with_reducible apply r_CB) | (with_reducible apply r_I0) | (with_reducible apply r_test) | (with_reducible apply r_bl)
  | (with_reducible apply r_B) | (with_reducible apply r_un) | (with_reducible apply r_U) | ((with_reducible apply r_eq); exact rfl) | ((with_reducible apply r_ne); exact rfl)
  | (with_reducible apply r_and) | (with_reducible apply r_or) | (with_reducible apply r_not) | (with_reducible apply r_andV) | (with_reducible apply r_orV) | (with_reducible apply r_notV) | (with_reducible apply r_ifE)
  | (with_reducible apply r_asg) | (with_reducible apply r_sub) | (with_reducible apply r_par) | (with_reducible apply r_drop) | (with_reducible apply r_brk) | (with_reducible apply r_cont)
  | (with_reducible apply r_fld) | (with_reducible apply r_tup) | (with_reducible apply r_lst))
local macro_rules | `(tactic| walk_at "go") => `(tactic| repeat walk_at "go1")
local macro_rules | `(tactic| walk_at "go1") => `(tactic| first | (with_reducible apply r_make) | (with_reducible apply r_makeS))
local macro_rules | `(tactic| walk_at "go1") => `(tactic| first | (with_reducible apply r_for) | (with_reducible apply r_iRng1) | (with_reducible apply r_iList))
local macro_rules | `(tactic| walk_at "go1") => `(tactic| first | ((with_reducible apply r_ixL); exact SqL.of upd_same; exact rfl) | ((with_reducible apply r_ixT); exact SqT.of upd_same; exact rfl))
local macro_rules | `(tactic| walk_at "go2") => `(tactic| first | (refine Or.inl ⟨_, rfl, ?_⟩) | (refine ⟨_, rfl, ?_⟩) | (refine ⟨_, _, rfl, ?_⟩) | (refine ⟨_, _, rfl, rfl, ?_⟩))
local macro_rules | `(tactic| walk_at "go") => `(tactic| repeat first | walk_at "go1" | walk_at "go2")
local macro_rules | `(tactic| walk_at "go1") => `(tactic| ((with_reducible apply r_setL); exact upd_same; exact rfl))
local macro_rules | `(tactic| walk_at "go2") => `(tactic| (refine And.intro (by first | omega | (dsimp only; omega) | decide) ?_))
local macro_rules | `(tactic| walk_at "go1") => `(tactic| (with_reducible apply r_sfld))
local macro_rules | `(tactic| walk_at "go2") => `(tactic| (refine And.intro (show CPow _ _ from ⟨by decide, by decide, by decide⟩) ?_))
local macro_rules | `(tactic| walk_at "go2") => `(tactic| (refine And.intro (by assumption) ?_))
local macro_rules | `(tactic| walk_at "go1") => `(tactic| first | (with_reducible apply ite_nt) | (with_reducible apply ite_nf) | (with_reducible apply iteT) | (with_reducible apply iteF))
/-! ### the text by places -/
def top (i : Nat) : Stmt := PySem.Challenge.pw_linkwork_k05_powers.main.body.getD i (.Pass ⟨0, 0, 0, 0⟩)
abbrev s_Ratio___init__ : Stmt := inClass (top 5) 0
abbrev s_Ratio___eq__ : Stmt := inClass (top 5) 1
abbrev s_Ratio___add__ : Stmt := inClass (top 5) 2
abbrev s_Ratio___sub__ : Stmt := inClass (top 5) 3
abbrev s_Ratio___mul__ : Stmt := inClass (top 5) 4
abbrev s_Ratio___neg__ : Stmt := inClass (top 5) 5
abbrev s_quotient : Stmt := top 6
abbrev s_power : Stmt := top 7
abbrev s__law_stream : Stmt := top 9
abbrev s__law_draw : Stmt := top 10
abbrev s__law_pair : Stmt := top 11
abbrev s__law_is : Stmt := top 12
abbrev s__law_far : Stmt := top 13
abbrev s__law_whole : Stmt := top 14
abbrev s__law_drawn_pair : Stmt := top 15
abbrev s__law_signed : Stmt := top 16
abbrev s_law : Stmt := top 17
/-! ### the head's facts -/
def d_Ratio___init__ : He.DefD := ⟨(("Ratio" : Str), some ("__init__" : Str)), ("__init__" : Str), ("Ratio.__init__" : Str), defArgs s_Ratio___init__, defBody s_Ratio___init__, defScope s_Ratio___init__, [(.int (1))], []⟩
def d_Ratio___eq__ : He.DefD := ⟨(("Ratio" : Str), some ("__eq__" : Str)), ("__eq__" : Str), ("Ratio.__eq__" : Str), defArgs s_Ratio___eq__, defBody s_Ratio___eq__, defScope s_Ratio___eq__, [], []⟩
def d_Ratio___add__ : He.DefD := ⟨(("Ratio" : Str), some ("__add__" : Str)), ("__add__" : Str), ("Ratio.__add__" : Str), defArgs s_Ratio___add__, defBody s_Ratio___add__, defScope s_Ratio___add__, [], []⟩
def d_Ratio___sub__ : He.DefD := ⟨(("Ratio" : Str), some ("__sub__" : Str)), ("__sub__" : Str), ("Ratio.__sub__" : Str), defArgs s_Ratio___sub__, defBody s_Ratio___sub__, defScope s_Ratio___sub__, [], []⟩
def d_Ratio___mul__ : He.DefD := ⟨(("Ratio" : Str), some ("__mul__" : Str)), ("__mul__" : Str), ("Ratio.__mul__" : Str), defArgs s_Ratio___mul__, defBody s_Ratio___mul__, defScope s_Ratio___mul__, [], []⟩
def d_Ratio___neg__ : He.DefD := ⟨(("Ratio" : Str), some ("__neg__" : Str)), ("__neg__" : Str), ("Ratio.__neg__" : Str), defArgs s_Ratio___neg__, defBody s_Ratio___neg__, defScope s_Ratio___neg__, [], []⟩
def d_quotient : He.DefD := ⟨(("quotient" : Str), none), ("quotient" : Str), ("quotient" : Str), defArgs s_quotient, defBody s_quotient, defScope s_quotient, [], []⟩
def d_power : He.DefD := ⟨(("power" : Str), none), ("power" : Str), ("power" : Str), defArgs s_power, defBody s_power, defScope s_power, [], []⟩
def d__law_stream : He.DefD := ⟨(("_law_stream" : Str), none), ("_law_stream" : Str), ("_law_stream" : Str), defArgs s__law_stream, defBody s__law_stream, defScope s__law_stream, [], []⟩
def d__law_draw : He.DefD := ⟨(("_law_draw" : Str), none), ("_law_draw" : Str), ("_law_draw" : Str), defArgs s__law_draw, defBody s__law_draw, defScope s__law_draw, [], []⟩
def d__law_pair : He.DefD := ⟨(("_law_pair" : Str), none), ("_law_pair" : Str), ("_law_pair" : Str), defArgs s__law_pair, defBody s__law_pair, defScope s__law_pair, [], []⟩
def d__law_is : He.DefD := ⟨(("_law_is" : Str), none), ("_law_is" : Str), ("_law_is" : Str), defArgs s__law_is, defBody s__law_is, defScope s__law_is, [], []⟩
def d__law_far : He.DefD := ⟨(("_law_far" : Str), none), ("_law_far" : Str), ("_law_far" : Str), defArgs s__law_far, defBody s__law_far, defScope s__law_far, [], []⟩
def d__law_whole : He.DefD := ⟨(("_law_whole" : Str), none), ("_law_whole" : Str), ("_law_whole" : Str), defArgs s__law_whole, defBody s__law_whole, defScope s__law_whole, [], []⟩
def d__law_drawn_pair : He.DefD := ⟨(("_law_drawn_pair" : Str), none), ("_law_drawn_pair" : Str), ("_law_drawn_pair" : Str), defArgs s__law_drawn_pair, defBody s__law_drawn_pair, defScope s__law_drawn_pair, [], []⟩
def d__law_signed : He.DefD := ⟨(("_law_signed" : Str), none), ("_law_signed" : Str), ("_law_signed" : Str), defArgs s__law_signed, defBody s__law_signed, defScope s__law_signed, [], []⟩
def d_law : He.DefD := ⟨(("law" : Str), none), ("law" : Str), ("law" : Str), defArgs s_law, defBody s_law, defScope s_law, [], []⟩
def fnL : List He.DefD := [d_Ratio___init__, d_Ratio___eq__, d_Ratio___add__, d_Ratio___sub__, d_Ratio___mul__, d_Ratio___neg__, d_quotient, d_power, d__law_stream, d__law_draw, d__law_pair, d__law_is, d__law_far, d__law_whole, d__law_drawn_pair, d__law_signed, d_law]
def faL : List He.Fa := [.glo ("quotient" : Str), .glo ("power" : Str), .glo ("_law_stream" : Str), .glo ("_law_draw" : Str), .glo ("_law_pair" : Str), .glo ("_law_is" : Str), .glo ("_law_far" : Str), .glo ("_law_whole" : Str), .glo ("_law_drawn_pair" : Str), .glo ("_law_signed" : Str), .glo ("law" : Str), .glo ("LinkworkError" : Str), .glo ("ByZero" : Str), .glo ("Ratio" : Str), .free ("abs" : Str), .free ("bool" : Str), .free ("int" : Str), .free ("isinstance" : Str), .free ("len" : Str), .free ("list" : Str), .free ("range" : Str), .exc ("LinkworkError" : Str), .exc ("ByZero" : Str), .cls ("Ratio" : Str), .noat ("Ratio" : Str) ("top" : Str), .noat ("Ratio" : Str) ("bottom" : Str), .mkr ("Ratio" : Str), .meth ("Ratio" : Str) ("__eq__" : Str), .meth ("Ratio" : Str) ("__add__" : Str), .meth ("Ratio" : Str) ("__sub__" : Str), .meth ("Ratio" : Str) ("__mul__" : Str), .meth ("Ratio" : Str) ("__neg__" : Str), .exm ("ByZero" : Str) ("ByZero" : Str) true]
def ex_imp_gcd (K : PySem.W.Frag) : Bool := He.eqO (PySem.W.nsIn K mainGlobals ("gcd" : Str)) (some (some (.builtin "math.gcd")))
def ex_excC_LinkworkError (K : PySem.W.Frag) : Bool := excCB K (He.ga K ("LinkworkError" : Str))
def ex_excC_ByZero (K : PySem.W.Frag) : Bool := excCB K (He.ga K ("ByZero" : Str))
def ex_isi_Ratio (K : PySem.W.Frag) : Bool := isiCB K (He.ga K ("Ratio" : Str))
def ex_first_Ratio (K : PySem.W.Frag) : Bool := PySem.W.selfFirst K (He.ga K ("Ratio" : Str))
def ex_kit_ByZero_LinkworkError (K : PySem.W.Frag) : Bool := decide (PySem.W.kitOne K (.ref (He.ga K ("ByZero" : Str))) (.ref (He.ga K ("LinkworkError" : Str))) = some true)
def ex_kit_Ratio_Ratio (K : PySem.W.Frag) : Bool := decide (PySem.W.kitOne K (.ref (He.ga K ("Ratio" : Str))) (.ref (He.ga K ("Ratio" : Str))) = some true)
def ex_kit_t_int_t_bool (K : PySem.W.Frag) : Bool := decide (PySem.W.kitOne K (.type "int") (.type "bool") = some false)
def exL : List (PySem.W.Frag → Bool) := [ex_imp_gcd, ex_excC_LinkworkError, ex_excC_ByZero, ex_isi_Ratio, ex_first_Ratio, ex_kit_ByZero_LinkworkError, ex_kit_Ratio_Ratio, ex_kit_t_int_t_bool]
def exB (K : PySem.W.Frag) : Bool := exL.all fun f => f K
abbrev R : PySem.W.OpenRow := PySem.W.OpenLaw.row PySem.Challenge.rw_linkwork_k05_powers
abbrev hk : PySem.W.Hook := He.hookX 5 faL fnL [] [] exB
def ob (s : PySem.W.SharedT) : He.AlX := He.obsX 5 faL fnL [] [] exB (HeadRun.getT s)
theorem ob_eq (s : PySem.W.SharedT) : ob s = hk.obs s.abs := He.obsX_eq (HeadRun.getT_eq s)
def looseL : List PySem.Str := [("__name__" : Str), ("LinkworkError" : Str), ("ByZero" : Str), ("Ratio" : Str), ("quotient" : Str), ("power" : Str), ("_law_stream" : Str), ("_law_draw" : Str), ("_law_pair" : Str), ("_law_is" : Str), ("_law_far" : Str), ("_law_whole" : Str), ("_law_drawn_pair" : Str), ("_law_signed" : Str)]
abbrev qv : Program := PySem.W.view R.prog [0, 17]
theorem run (w : World) : HeadRun.RunEqI R qv hk ob 4000 looseL w := by
  unfold HeadRun.RunEqI
  kernel_rfl
/-! ### the facts by names -/
def Top (w : World) (K : PySem.W.Frag) (mg : Str → Option Value) : Prop := ∃ h : Heap, K.In h ∧ h.Ns mainGlobals mg ∧ He.SaysX faL fnL [] [] exB w h K
noncomputable def fdOf (K : PySem.W.Frag) (d : He.DefD) : FuncData := @Classical.epsilon FuncData ⟨PySem.W.fnOf d.name d.qual d.params d.body d.scope .none .none .none .none none .none .none⟩ fun fd => FunD K d.name d.qual d.params d.body d.scope (d.dvs K) (d.kws K) (He.fAd K d.at_) fd
section
variable {w : World} {K : PySem.W.Frag} {mg : Str → Option Value}
theorem Top.fun_ (T : Top w K mg) (i : Nat) {d : He.DefD} (h : fnL[i]? = some d) : FunD K d.name d.qual d.params d.body d.scope (d.dvs K) (d.kws K) (He.fAd K d.at_) (fdOf K d) := by
  obtain ⟨_, _, _, c⟩ := T
  exact Classical.epsilon_spec (c.t.d.def_ i h)
theorem Top.fact (T : Top w K mg) (i : Nat) {f : He.Fa} (h : faL[i]? = some f) : f.ok K = true := by
  obtain ⟨_, _, _, c⟩ := T
  exact c.t.d.fact i h
theorem Top.ex (T : Top w K mg) (i : Nat) {f : PySem.W.Frag → Bool} (h : exL[i]? = some f) : f K = true := by
  obtain ⟨_, _, _, c⟩ := T
  exact List.all_eq_true.mp (show (exL.all fun f => f K) = true from c.more) f (List.mem_of_getElem? h)
theorem Top.g_quotient (T : Top w K mg) : mg ("quotient" : Str) = some (.ref (He.ga K ("quotient" : Str))) := by obtain ⟨h, X, G, c⟩ := T; exact He.glo_ok X G (c.t.d.fact 0 rfl)
theorem Top.g_power (T : Top w K mg) : mg ("power" : Str) = some (.ref (He.ga K ("power" : Str))) := by obtain ⟨h, X, G, c⟩ := T; exact He.glo_ok X G (c.t.d.fact 1 rfl)
theorem Top.g__law_stream (T : Top w K mg) : mg ("_law_stream" : Str) = some (.ref (He.ga K ("_law_stream" : Str))) := by obtain ⟨h, X, G, c⟩ := T; exact He.glo_ok X G (c.t.d.fact 2 rfl)
theorem Top.g__law_draw (T : Top w K mg) : mg ("_law_draw" : Str) = some (.ref (He.ga K ("_law_draw" : Str))) := by obtain ⟨h, X, G, c⟩ := T; exact He.glo_ok X G (c.t.d.fact 3 rfl)
theorem Top.g__law_pair (T : Top w K mg) : mg ("_law_pair" : Str) = some (.ref (He.ga K ("_law_pair" : Str))) := by obtain ⟨h, X, G, c⟩ := T; exact He.glo_ok X G (c.t.d.fact 4 rfl)
theorem Top.g__law_is (T : Top w K mg) : mg ("_law_is" : Str) = some (.ref (He.ga K ("_law_is" : Str))) := by obtain ⟨h, X, G, c⟩ := T; exact He.glo_ok X G (c.t.d.fact 5 rfl)
theorem Top.g__law_far (T : Top w K mg) : mg ("_law_far" : Str) = some (.ref (He.ga K ("_law_far" : Str))) := by obtain ⟨h, X, G, c⟩ := T; exact He.glo_ok X G (c.t.d.fact 6 rfl)
theorem Top.g__law_whole (T : Top w K mg) : mg ("_law_whole" : Str) = some (.ref (He.ga K ("_law_whole" : Str))) := by obtain ⟨h, X, G, c⟩ := T; exact He.glo_ok X G (c.t.d.fact 7 rfl)
theorem Top.g__law_drawn_pair (T : Top w K mg) : mg ("_law_drawn_pair" : Str) = some (.ref (He.ga K ("_law_drawn_pair" : Str))) := by obtain ⟨h, X, G, c⟩ := T; exact He.glo_ok X G (c.t.d.fact 8 rfl)
theorem Top.g__law_signed (T : Top w K mg) : mg ("_law_signed" : Str) = some (.ref (He.ga K ("_law_signed" : Str))) := by obtain ⟨h, X, G, c⟩ := T; exact He.glo_ok X G (c.t.d.fact 9 rfl)
theorem Top.g_law (T : Top w K mg) : mg ("law" : Str) = some (.ref (He.ga K ("law" : Str))) := by obtain ⟨h, X, G, c⟩ := T; exact He.glo_ok X G (c.t.d.fact 10 rfl)
theorem Top.g_LinkworkError (T : Top w K mg) : mg ("LinkworkError" : Str) = some (.ref (He.ga K ("LinkworkError" : Str))) := by obtain ⟨h, X, G, c⟩ := T; exact He.glo_ok X G (c.t.d.fact 11 rfl)
theorem Top.g_ByZero (T : Top w K mg) : mg ("ByZero" : Str) = some (.ref (He.ga K ("ByZero" : Str))) := by obtain ⟨h, X, G, c⟩ := T; exact He.glo_ok X G (c.t.d.fact 12 rfl)
theorem Top.g_Ratio (T : Top w K mg) : mg ("Ratio" : Str) = some (.ref (He.ga K ("Ratio" : Str))) := by obtain ⟨h, X, G, c⟩ := T; exact He.glo_ok X G (c.t.d.fact 13 rfl)
theorem Top.n_abs (T : Top w K mg) : mg ("abs" : Str) = none := by obtain ⟨h, X, G, c⟩ := T; exact He.free_ok X G (c.t.d.fact 14 rfl)
theorem Top.n_bool (T : Top w K mg) : mg ("bool" : Str) = none := by obtain ⟨h, X, G, c⟩ := T; exact He.free_ok X G (c.t.d.fact 15 rfl)
theorem Top.n_int (T : Top w K mg) : mg ("int" : Str) = none := by obtain ⟨h, X, G, c⟩ := T; exact He.free_ok X G (c.t.d.fact 16 rfl)
theorem Top.n_isinstance (T : Top w K mg) : mg ("isinstance" : Str) = none := by obtain ⟨h, X, G, c⟩ := T; exact He.free_ok X G (c.t.d.fact 17 rfl)
theorem Top.n_len (T : Top w K mg) : mg ("len" : Str) = none := by obtain ⟨h, X, G, c⟩ := T; exact He.free_ok X G (c.t.d.fact 18 rfl)
theorem Top.n_list (T : Top w K mg) : mg ("list" : Str) = none := by obtain ⟨h, X, G, c⟩ := T; exact He.free_ok X G (c.t.d.fact 19 rfl)
theorem Top.n_range (T : Top w K mg) : mg ("range" : Str) = none := by obtain ⟨h, X, G, c⟩ := T; exact He.free_ok X G (c.t.d.fact 20 rfl)
theorem Top.exc_LinkworkError (T : Top w K mg) : PySem.W.excIn K (He.ga K ("LinkworkError" : Str)) He.veBase "ValueError.__new__" = true ∧ PySem.W.keepIn K (.ref (He.ga K ("LinkworkError" : Str))) = true ∧ PySem.W.subIn K (.ref (He.ga K ("LinkworkError" : Str))) (.type "BaseException") = some true ∧ PySem.W.typeIn K (.ref (He.ga K ("LinkworkError" : Str))) = some (.type "type") := He.exc_ok (T.fact 21 rfl)
theorem Top.exc_ByZero (T : Top w K mg) : PySem.W.excIn K (He.ga K ("ByZero" : Str)) He.veBase "ValueError.__new__" = true ∧ PySem.W.keepIn K (.ref (He.ga K ("ByZero" : Str))) = true ∧ PySem.W.subIn K (.ref (He.ga K ("ByZero" : Str))) (.type "BaseException") = some true ∧ PySem.W.typeIn K (.ref (He.ga K ("ByZero" : Str))) = some (.type "type") := He.exc_ok (T.fact 22 rfl)
theorem Top.cls_Ratio (T : Top w K mg) : Cls K (He.ga K ("Ratio" : Str)) := He.cls_ok (T.fact 23 rfl)
theorem Top.na_Ratio_top (T : Top w K mg) : NoAttr K (He.ga K ("Ratio" : Str)) ("top" : Str) := He.noat_ok (T.fact 24 rfl)
theorem Top.na_Ratio_bottom (T : Top w K mg) : NoAttr K (He.ga K ("Ratio" : Str)) ("bottom" : Str) := He.noat_ok (T.fact 25 rfl)
theorem Top.mk_Ratio (T : Top w K mg) : Mk K (He.ga K ("Ratio" : Str)) (He.ma K (He.ga K ("Ratio" : Str)) "__init__") := He.mkr_ok (T.fact 26 rfl)
theorem Top.m_Ratio___eq__ (T : Top w K mg) : Meth K (He.ga K ("Ratio" : Str)) ("__eq__" : Str) (He.ma K (He.ga K ("Ratio" : Str)) ("__eq__" : Str)) := He.meth_ok (T.fact 27 rfl)
theorem Top.m_Ratio___add__ (T : Top w K mg) : Meth K (He.ga K ("Ratio" : Str)) ("__add__" : Str) (He.ma K (He.ga K ("Ratio" : Str)) ("__add__" : Str)) := He.meth_ok (T.fact 28 rfl)
theorem Top.m_Ratio___sub__ (T : Top w K mg) : Meth K (He.ga K ("Ratio" : Str)) ("__sub__" : Str) (He.ma K (He.ga K ("Ratio" : Str)) ("__sub__" : Str)) := He.meth_ok (T.fact 29 rfl)
theorem Top.m_Ratio___mul__ (T : Top w K mg) : Meth K (He.ga K ("Ratio" : Str)) ("__mul__" : Str) (He.ma K (He.ga K ("Ratio" : Str)) ("__mul__" : Str)) := He.meth_ok (T.fact 30 rfl)
theorem Top.m_Ratio___neg__ (T : Top w K mg) : Meth K (He.ga K ("Ratio" : Str)) ("__neg__" : Str) (He.ma K (He.ga K ("Ratio" : Str)) ("__neg__" : Str)) := He.meth_ok (T.fact 31 rfl)
theorem Top.exm_ByZero_ByZero (T : Top w K mg) : PySem.W.exmOne K (.ref (He.ga K ("ByZero" : Str))) (.ref (He.ga K ("ByZero" : Str))) = some true := He.exm_ok (T.fact 32 rfl)
theorem Top.x_imp_gcd (T : Top w K mg) : ex_imp_gcd K = true := T.ex 0 rfl
theorem Top.x_excC_LinkworkError (T : Top w K mg) : ex_excC_LinkworkError K = true := T.ex 1 rfl
theorem Top.x_excC_ByZero (T : Top w K mg) : ex_excC_ByZero K = true := T.ex 2 rfl
theorem Top.x_isi_Ratio (T : Top w K mg) : ex_isi_Ratio K = true := T.ex 3 rfl
theorem Top.x_first_Ratio (T : Top w K mg) : ex_first_Ratio K = true := T.ex 4 rfl
theorem Top.x_kit_ByZero_LinkworkError (T : Top w K mg) : ex_kit_ByZero_LinkworkError K = true := T.ex 5 rfl
theorem Top.x_kit_Ratio_Ratio (T : Top w K mg) : ex_kit_Ratio_Ratio K = true := T.ex 6 rfl
theorem Top.x_kit_t_int_t_bool (T : Top w K mg) : ex_kit_t_int_t_bool K = true := T.ex 7 rfl
theorem Top.gcdM (T : Top w K mg) : mg ("gcd" : Str) = some (.builtin "math.gcd") := by have e := T.x_imp_gcd; obtain ⟨h, X, G, c⟩ := T; exact PySem.W.mg_of X G (He.eqO_ok e)
theorem Top.f_Ratio___init__ (T : Top w K mg) : FunD K ("__init__" : Str) ("Ratio.__init__" : Str) (defArgs s_Ratio___init__) (defBody s_Ratio___init__) (defScope s_Ratio___init__) (d_Ratio___init__.dvs K) (d_Ratio___init__.kws K) (He.ma K (He.ga K ("Ratio" : Str)) ("__init__" : Str)) (fdOf K d_Ratio___init__) := T.fun_ 0 rfl
theorem Top.b0_Ratio___init__ (T : Top w K mg) : ∃ ds, Vals ((d_Ratio___init__.dvs K).drop 0) ds ∧ Binds K (fdOf K d_Ratio___init__) ["self", "numerator", "denominator"] ds := T.f_Ratio___init__.binds1 2 0 (by intro z; cases z) rfl fun _ _ _ _ _ _ _ us its h1 h2 => match us, its, h1, h2 with | [_, _], [_], _, _ => ⟨_, rfl, rfl⟩
theorem Top.b1_Ratio___init__ (T : Top w K mg) : ∃ ds, Vals ((d_Ratio___init__.dvs K).drop 1) ds ∧ Binds K (fdOf K d_Ratio___init__) ["self", "numerator", "denominator"] ds := T.f_Ratio___init__.binds1 3 1 (by intro z; cases z) rfl fun _ _ _ _ _ _ _ us its h1 h2 => match us, its, h1, h2 with | [_, _, _], [_], _, _ => ⟨_, rfl, rfl⟩
theorem sc_Ratio___init__ : FnScope ["self", "numerator", "denominator", "divisor"] ["self", "numerator", "denominator"] (defScope s_Ratio___init__) := ⟨rfl, rfl, rfl, by decide +kernel, rfl, by decide +kernel, by decide +kernel⟩
theorem Top.f_Ratio___eq__ (T : Top w K mg) : FunD K ("__eq__" : Str) ("Ratio.__eq__" : Str) (defArgs s_Ratio___eq__) (defBody s_Ratio___eq__) (defScope s_Ratio___eq__) (d_Ratio___eq__.dvs K) (d_Ratio___eq__.kws K) (He.ma K (He.ga K ("Ratio" : Str)) ("__eq__" : Str)) (fdOf K d_Ratio___eq__) := T.fun_ 1 rfl
theorem Top.b_Ratio___eq__ (T : Top w K mg) : Binds K (fdOf K d_Ratio___eq__) ["self", "other"] [] := (show FunD K ("__eq__" : Str) ("Ratio.__eq__" : Str) (defArgs s_Ratio___eq__) (defBody s_Ratio___eq__) (defScope s_Ratio___eq__) [] (d_Ratio___eq__.kws K) (He.ma K (He.ga K ("Ratio" : Str)) ("__eq__" : Str)) (fdOf K d_Ratio___eq__) from T.f_Ratio___eq__).bindsN fun _ _ _ _ _ _ us hl => match us, hl with | [_, _], _ => rfl
theorem sc_Ratio___eq__ : FnScope ["self", "other"] ["self", "other"] (defScope s_Ratio___eq__) := ⟨rfl, rfl, rfl, by decide +kernel, rfl, by decide +kernel, by decide +kernel⟩
theorem Top.f_Ratio___add__ (T : Top w K mg) : FunD K ("__add__" : Str) ("Ratio.__add__" : Str) (defArgs s_Ratio___add__) (defBody s_Ratio___add__) (defScope s_Ratio___add__) (d_Ratio___add__.dvs K) (d_Ratio___add__.kws K) (He.ma K (He.ga K ("Ratio" : Str)) ("__add__" : Str)) (fdOf K d_Ratio___add__) := T.fun_ 2 rfl
theorem Top.b_Ratio___add__ (T : Top w K mg) : Binds K (fdOf K d_Ratio___add__) ["self", "other"] [] := (show FunD K ("__add__" : Str) ("Ratio.__add__" : Str) (defArgs s_Ratio___add__) (defBody s_Ratio___add__) (defScope s_Ratio___add__) [] (d_Ratio___add__.kws K) (He.ma K (He.ga K ("Ratio" : Str)) ("__add__" : Str)) (fdOf K d_Ratio___add__) from T.f_Ratio___add__).bindsN fun _ _ _ _ _ _ us hl => match us, hl with | [_, _], _ => rfl
theorem sc_Ratio___add__ : FnScope ["self", "other"] ["self", "other"] (defScope s_Ratio___add__) := ⟨rfl, rfl, rfl, by decide +kernel, rfl, by decide +kernel, by decide +kernel⟩
theorem Top.f_Ratio___sub__ (T : Top w K mg) : FunD K ("__sub__" : Str) ("Ratio.__sub__" : Str) (defArgs s_Ratio___sub__) (defBody s_Ratio___sub__) (defScope s_Ratio___sub__) (d_Ratio___sub__.dvs K) (d_Ratio___sub__.kws K) (He.ma K (He.ga K ("Ratio" : Str)) ("__sub__" : Str)) (fdOf K d_Ratio___sub__) := T.fun_ 3 rfl
theorem Top.b_Ratio___sub__ (T : Top w K mg) : Binds K (fdOf K d_Ratio___sub__) ["self", "other"] [] := (show FunD K ("__sub__" : Str) ("Ratio.__sub__" : Str) (defArgs s_Ratio___sub__) (defBody s_Ratio___sub__) (defScope s_Ratio___sub__) [] (d_Ratio___sub__.kws K) (He.ma K (He.ga K ("Ratio" : Str)) ("__sub__" : Str)) (fdOf K d_Ratio___sub__) from T.f_Ratio___sub__).bindsN fun _ _ _ _ _ _ us hl => match us, hl with | [_, _], _ => rfl
theorem sc_Ratio___sub__ : FnScope ["self", "other"] ["self", "other"] (defScope s_Ratio___sub__) := ⟨rfl, rfl, rfl, by decide +kernel, rfl, by decide +kernel, by decide +kernel⟩
theorem Top.f_Ratio___mul__ (T : Top w K mg) : FunD K ("__mul__" : Str) ("Ratio.__mul__" : Str) (defArgs s_Ratio___mul__) (defBody s_Ratio___mul__) (defScope s_Ratio___mul__) (d_Ratio___mul__.dvs K) (d_Ratio___mul__.kws K) (He.ma K (He.ga K ("Ratio" : Str)) ("__mul__" : Str)) (fdOf K d_Ratio___mul__) := T.fun_ 4 rfl
theorem Top.b_Ratio___mul__ (T : Top w K mg) : Binds K (fdOf K d_Ratio___mul__) ["self", "other"] [] := (show FunD K ("__mul__" : Str) ("Ratio.__mul__" : Str) (defArgs s_Ratio___mul__) (defBody s_Ratio___mul__) (defScope s_Ratio___mul__) [] (d_Ratio___mul__.kws K) (He.ma K (He.ga K ("Ratio" : Str)) ("__mul__" : Str)) (fdOf K d_Ratio___mul__) from T.f_Ratio___mul__).bindsN fun _ _ _ _ _ _ us hl => match us, hl with | [_, _], _ => rfl
theorem sc_Ratio___mul__ : FnScope ["self", "other"] ["self", "other"] (defScope s_Ratio___mul__) := ⟨rfl, rfl, rfl, by decide +kernel, rfl, by decide +kernel, by decide +kernel⟩
theorem Top.f_Ratio___neg__ (T : Top w K mg) : FunD K ("__neg__" : Str) ("Ratio.__neg__" : Str) (defArgs s_Ratio___neg__) (defBody s_Ratio___neg__) (defScope s_Ratio___neg__) (d_Ratio___neg__.dvs K) (d_Ratio___neg__.kws K) (He.ma K (He.ga K ("Ratio" : Str)) ("__neg__" : Str)) (fdOf K d_Ratio___neg__) := T.fun_ 5 rfl
theorem Top.b_Ratio___neg__ (T : Top w K mg) : Binds K (fdOf K d_Ratio___neg__) ["self"] [] := (show FunD K ("__neg__" : Str) ("Ratio.__neg__" : Str) (defArgs s_Ratio___neg__) (defBody s_Ratio___neg__) (defScope s_Ratio___neg__) [] (d_Ratio___neg__.kws K) (He.ma K (He.ga K ("Ratio" : Str)) ("__neg__" : Str)) (fdOf K d_Ratio___neg__) from T.f_Ratio___neg__).bindsN fun _ _ _ _ _ _ us hl => match us, hl with | [_], _ => rfl
theorem sc_Ratio___neg__ : FnScope ["self"] ["self"] (defScope s_Ratio___neg__) := ⟨rfl, rfl, rfl, by decide +kernel, rfl, by decide +kernel, by decide +kernel⟩
theorem Top.f_quotient (T : Top w K mg) : FunD K ("quotient" : Str) ("quotient" : Str) (defArgs s_quotient) (defBody s_quotient) (defScope s_quotient) (d_quotient.dvs K) (d_quotient.kws K) (He.ga K ("quotient" : Str)) (fdOf K d_quotient) := T.fun_ 6 rfl
theorem Top.b_quotient (T : Top w K mg) : Binds K (fdOf K d_quotient) ["first", "second"] [] := (show FunD K ("quotient" : Str) ("quotient" : Str) (defArgs s_quotient) (defBody s_quotient) (defScope s_quotient) [] (d_quotient.kws K) (He.ga K ("quotient" : Str)) (fdOf K d_quotient) from T.f_quotient).bindsN fun _ _ _ _ _ _ us hl => match us, hl with | [_, _], _ => rfl
theorem sc_quotient : FnScope ["first", "second"] ["first", "second"] (defScope s_quotient) := ⟨rfl, rfl, rfl, by decide +kernel, rfl, by decide +kernel, by decide +kernel⟩
theorem Top.f_power (T : Top w K mg) : FunD K ("power" : Str) ("power" : Str) (defArgs s_power) (defBody s_power) (defScope s_power) (d_power.dvs K) (d_power.kws K) (He.ga K ("power" : Str)) (fdOf K d_power) := T.fun_ 7 rfl
theorem Top.b_power (T : Top w K mg) : Binds K (fdOf K d_power) ["base", "exponent"] [] := (show FunD K ("power" : Str) ("power" : Str) (defArgs s_power) (defBody s_power) (defScope s_power) [] (d_power.kws K) (He.ga K ("power" : Str)) (fdOf K d_power) from T.f_power).bindsN fun _ _ _ _ _ _ us hl => match us, hl with | [_, _], _ => rfl
theorem sc_power : FnScope ["base", "exponent", "result", "_"] ["base", "exponent"] (defScope s_power) := ⟨rfl, rfl, rfl, by decide +kernel, rfl, by decide +kernel, by decide +kernel⟩
theorem Top.f__law_stream (T : Top w K mg) : FunD K ("_law_stream" : Str) ("_law_stream" : Str) (defArgs s__law_stream) (defBody s__law_stream) (defScope s__law_stream) (d__law_stream.dvs K) (d__law_stream.kws K) (He.ga K ("_law_stream" : Str)) (fdOf K d__law_stream) := T.fun_ 8 rfl
theorem Top.b__law_stream (T : Top w K mg) : Binds K (fdOf K d__law_stream) ["script"] [] := (show FunD K ("_law_stream" : Str) ("_law_stream" : Str) (defArgs s__law_stream) (defBody s__law_stream) (defScope s__law_stream) [] (d__law_stream.kws K) (He.ga K ("_law_stream" : Str)) (fdOf K d__law_stream) from T.f__law_stream).bindsN fun _ _ _ _ _ _ us hl => match us, hl with | [_], _ => rfl
theorem sc__law_stream : FnScope ["script", "mixed", "cell"] ["script"] (defScope s__law_stream) := ⟨rfl, rfl, rfl, by decide +kernel, rfl, by decide +kernel, by decide +kernel⟩
theorem Top.f__law_draw (T : Top w K mg) : FunD K ("_law_draw" : Str) ("_law_draw" : Str) (defArgs s__law_draw) (defBody s__law_draw) (defScope s__law_draw) (d__law_draw.dvs K) (d__law_draw.kws K) (He.ga K ("_law_draw" : Str)) (fdOf K d__law_draw) := T.fun_ 9 rfl
theorem Top.b__law_draw (T : Top w K mg) : Binds K (fdOf K d__law_draw) ["stream", "many"] [] := (show FunD K ("_law_draw" : Str) ("_law_draw" : Str) (defArgs s__law_draw) (defBody s__law_draw) (defScope s__law_draw) [] (d__law_draw.kws K) (He.ga K ("_law_draw" : Str)) (fdOf K d__law_draw) from T.f__law_draw).bindsN fun _ _ _ _ _ _ us hl => match us, hl with | [_, _], _ => rfl
theorem sc__law_draw : FnScope ["stream", "many", "value"] ["stream", "many"] (defScope s__law_draw) := ⟨rfl, rfl, rfl, by decide +kernel, rfl, by decide +kernel, by decide +kernel⟩
theorem Top.f__law_pair (T : Top w K mg) : FunD K ("_law_pair" : Str) ("_law_pair" : Str) (defArgs s__law_pair) (defBody s__law_pair) (defScope s__law_pair) (d__law_pair.dvs K) (d__law_pair.kws K) (He.ga K ("_law_pair" : Str)) (fdOf K d__law_pair) := T.fun_ 10 rfl
theorem Top.b__law_pair (T : Top w K mg) : Binds K (fdOf K d__law_pair) ["n", "d"] [] := (show FunD K ("_law_pair" : Str) ("_law_pair" : Str) (defArgs s__law_pair) (defBody s__law_pair) (defScope s__law_pair) [] (d__law_pair.kws K) (He.ga K ("_law_pair" : Str)) (fdOf K d__law_pair) from T.f__law_pair).bindsN fun _ _ _ _ _ _ us hl => match us, hl with | [_, _], _ => rfl
theorem sc__law_pair : FnScope ["n", "d", "a", "b"] ["n", "d"] (defScope s__law_pair) := ⟨rfl, rfl, rfl, by decide +kernel, rfl, by decide +kernel, by decide +kernel⟩
theorem Top.f__law_is (T : Top w K mg) : FunD K ("_law_is" : Str) ("_law_is" : Str) (defArgs s__law_is) (defBody s__law_is) (defScope s__law_is) (d__law_is.dvs K) (d__law_is.kws K) (He.ga K ("_law_is" : Str)) (fdOf K d__law_is) := T.fun_ 11 rfl
theorem Top.b__law_is (T : Top w K mg) : Binds K (fdOf K d__law_is) ["value", "pair"] [] := (show FunD K ("_law_is" : Str) ("_law_is" : Str) (defArgs s__law_is) (defBody s__law_is) (defScope s__law_is) [] (d__law_is.kws K) (He.ga K ("_law_is" : Str)) (fdOf K d__law_is) from T.f__law_is).bindsN fun _ _ _ _ _ _ us hl => match us, hl with | [_, _], _ => rfl
theorem sc__law_is : FnScope ["value", "pair"] ["value", "pair"] (defScope s__law_is) := ⟨rfl, rfl, rfl, by decide +kernel, rfl, by decide +kernel, by decide +kernel⟩
theorem Top.f__law_far (T : Top w K mg) : FunD K ("_law_far" : Str) ("_law_far" : Str) (defArgs s__law_far) (defBody s__law_far) (defScope s__law_far) (d__law_far.dvs K) (d__law_far.kws K) (He.ga K ("_law_far" : Str)) (fdOf K d__law_far) := T.fun_ 12 rfl
theorem Top.b__law_far (T : Top w K mg) : Binds K (fdOf K d__law_far) ["stream"] [] := (show FunD K ("_law_far" : Str) ("_law_far" : Str) (defArgs s__law_far) (defBody s__law_far) (defScope s__law_far) [] (d__law_far.kws K) (He.ga K ("_law_far" : Str)) (fdOf K d__law_far) from T.f__law_far).bindsN fun _ _ _ _ _ _ us hl => match us, hl with | [_], _ => rfl
theorem sc__law_far : FnScope ["stream", "found", "k"] ["stream"] (defScope s__law_far) := ⟨rfl, rfl, rfl, by decide +kernel, rfl, by decide +kernel, by decide +kernel⟩
theorem Top.f__law_whole (T : Top w K mg) : FunD K ("_law_whole" : Str) ("_law_whole" : Str) (defArgs s__law_whole) (defBody s__law_whole) (defScope s__law_whole) (d__law_whole.dvs K) (d__law_whole.kws K) (He.ga K ("_law_whole" : Str)) (fdOf K d__law_whole) := T.fun_ 13 rfl
theorem Top.b__law_whole (T : Top w K mg) : Binds K (fdOf K d__law_whole) ["stream"] [] := (show FunD K ("_law_whole" : Str) ("_law_whole" : Str) (defArgs s__law_whole) (defBody s__law_whole) (defScope s__law_whole) [] (d__law_whole.kws K) (He.ga K ("_law_whole" : Str)) (fdOf K d__law_whole) from T.f__law_whole).bindsN fun _ _ _ _ _ _ us hl => match us, hl with | [_], _ => rfl
theorem sc__law_whole : FnScope ["stream", "pick"] ["stream"] (defScope s__law_whole) := ⟨rfl, rfl, rfl, by decide +kernel, rfl, by decide +kernel, by decide +kernel⟩
theorem Top.f__law_drawn_pair (T : Top w K mg) : FunD K ("_law_drawn_pair" : Str) ("_law_drawn_pair" : Str) (defArgs s__law_drawn_pair) (defBody s__law_drawn_pair) (defScope s__law_drawn_pair) (d__law_drawn_pair.dvs K) (d__law_drawn_pair.kws K) (He.ga K ("_law_drawn_pair" : Str)) (fdOf K d__law_drawn_pair) := T.fun_ 14 rfl
theorem Top.b__law_drawn_pair (T : Top w K mg) : Binds K (fdOf K d__law_drawn_pair) ["stream"] [] := (show FunD K ("_law_drawn_pair" : Str) ("_law_drawn_pair" : Str) (defArgs s__law_drawn_pair) (defBody s__law_drawn_pair) (defScope s__law_drawn_pair) [] (d__law_drawn_pair.kws K) (He.ga K ("_law_drawn_pair" : Str)) (fdOf K d__law_drawn_pair) from T.f__law_drawn_pair).bindsN fun _ _ _ _ _ _ us hl => match us, hl with | [_], _ => rfl
theorem sc__law_drawn_pair : FnScope ["stream", "d"] ["stream"] (defScope s__law_drawn_pair) := ⟨rfl, rfl, rfl, by decide +kernel, rfl, by decide +kernel, by decide +kernel⟩
theorem Top.f__law_signed (T : Top w K mg) : FunD K ("_law_signed" : Str) ("_law_signed" : Str) (defArgs s__law_signed) (defBody s__law_signed) (defScope s__law_signed) (d__law_signed.dvs K) (d__law_signed.kws K) (He.ga K ("_law_signed" : Str)) (fdOf K d__law_signed) := T.fun_ 15 rfl
theorem Top.b__law_signed (T : Top w K mg) : Binds K (fdOf K d__law_signed) ["n", "d"] [] := (show FunD K ("_law_signed" : Str) ("_law_signed" : Str) (defArgs s__law_signed) (defBody s__law_signed) (defScope s__law_signed) [] (d__law_signed.kws K) (He.ga K ("_law_signed" : Str)) (fdOf K d__law_signed) from T.f__law_signed).bindsN fun _ _ _ _ _ _ us hl => match us, hl with | [_, _], _ => rfl
theorem sc__law_signed : FnScope ["n", "d"] ["n", "d"] (defScope s__law_signed) := ⟨rfl, rfl, rfl, by decide +kernel, rfl, by decide +kernel, by decide +kernel⟩
theorem Top.f_law (T : Top w K mg) : FunD K ("law" : Str) ("law" : Str) (defArgs s_law) (defBody s_law) (defScope s_law) (d_law.dvs K) (d_law.kws K) (He.ga K ("law" : Str)) (fdOf K d_law) := T.fun_ 16 rfl
theorem Top.b_law (T : Top w K mg) : Binds K (fdOf K d_law) ["script"] [] := (show FunD K ("law" : Str) ("law" : Str) (defArgs s_law) (defBody s_law) (defScope s_law) [] (d_law.kws K) (He.ga K ("law" : Str)) (fdOf K d_law) from T.f_law).bindsN fun _ _ _ _ _ _ us hl => match us, hl with | [_], _ => rfl
theorem sc_law : FnScope ["script", "stream", "pair", "exponent", "n", "d", "k", "actual"] ["script"] (defScope s_law) := ⟨rfl, rfl, rfl, by decide +kernel, rfl, by decide +kernel, by decide +kernel⟩
end
/-! ### the law's own helpers: the stream -/
def spStream (K : PySem.W.Frag) : Sp := fun vs H Q _ => ∃ (a : Addr) (ns : List Int), vs = [.ref a] ∧ SqL K H a (ns.map V.int) ∧ ns.length ≤ 63 ∧ ∀ s H', Same H H' → Strm H' s → Q (.ref s) H'
def spDraw : Sp := fun vs H Q _ => ∃ (s : Addr) (n : Int), vs = [.ref s, .int n] ∧ Strm H s ∧ 0 < n ∧ n < 18446744073709551616 ∧ ∀ v, 0 ≤ v → v < n → Q (.int v) H
section
variable {P : Program} {w : World} {K : PySem.W.Frag} {mg : Str → Option Value} {base : Heap}
theorem small31 {i : Int} (h0 : 0 ≤ i) (h : i < 2147483648) : i.natAbs < 2 ^ 31 := by omega
theorem mulW31 {i j : Int} (h0 : 0 ≤ i) (h : i < 2147483648) (h2 : 0 ≤ j) (h3 : j < 2147483648) : CMulW i j := wide_mul (a := 31) (b := 31) (by omega) (by omega) (by decide) (by decide) (by decide)
theorem item_int {ns : List Int} {i : Nat} {x : V} (h : (ns.map V.int)[i]? = some x) : ∃ z, ns[i]? = some z ∧ x = .int z := by
  rw [List.getElem?_map] at h
  cases e : ns[i]? with
  | none => rw [e] at h; cases h
  | some z => rw [e] at h; exact ⟨z, rfl, (Option.some.inj h).symm⟩
theorem atI_ints {ns : List Int} {j : Int} (h0 : 0 ≤ j) (h : j < ((ns.map V.int).length : Int)) : ∃ z, atI (ns.map V.int) j = some (.int z) := by
  rw [List.length_map] at h
  have hk : j.toNat < ns.length := by omega
  have e : j = ((j.toNat : Nat) : Int) := by omega
  refine ⟨ns[j.toNat], ?_⟩
  have q : atI (ns.map V.int) ((j.toNat : Nat) : Int) = some (.int ns[j.toNat]) := atI_nat (by rw [List.getElem?_map, List.getElem?_eq_getElem hk] <;> rfl)
  rw [← e] at q
  exact q
theorem ok__law_draw (T : Top w K mg) : FnOk P w K mg base CX0 1 (He.ga K ("_law_draw" : Str)) (fdOf K d__law_draw) ["stream", "many"] spDraw := by
  refine (T.f__law_draw).ok sc__law_draw (fun vs H Q E h => ?_) (fun cdv A outer s H vs Q E hr h => ?_)
  · obtain ⟨a, n, rfl, _⟩ := h
    rfl
  · obtain ⟨s0, n, rfl, ⟨l, ns, hs, hl, h63⟩, h0, h1, k⟩ := h
    refine ⟨_, PSs.nox (pss_open s0 l (C8.pss_cut (ps_if (PW.pt (pw_and (pt_cmpR op_eq (pe_ix (ix_listK (K := K) rfl) (pv 0) pe_int (fun _ _ => rfl)) pe_int (nomark _)) (pw_and1 (pt_cmpR op_lt (pe_ix (ix_listK (K := K) rfl) (pv 0) pe_int (fun _ _ => rfl)) (pe_callB (call_lenK (K := K) rfl) (by rfl) T.n_len PySem.boot_len (pa_cons (pe_ix (ix_listK (K := K) rfl) (pv 0) pe_int (fun _ _ => rfl)) pa_nil)) (nomark _)))))
    (pss_cons (ps_asg (pe_callB call_abs (by rfl) T.n_abs (by decide +kernel) (pa_cons (pe_callTy call_int1 (by rfl) T.n_int (by decide +kernel) (pa_cons (pe_ix (ix_listK (K := K) rfl) (pe_ix (ix_listK (K := K) rfl) (pv 0) pe_int (fun _ _ => rfl)) (pe_ix (ix_listK (K := K) rfl) (pv 0) pe_int (fun _ _ => rfl)) (fun _ _ => rfl)) pa_nil)) pa_nil)) (pg_sub (pv 0) pe_int set_list))
    (pss_one (ps_asg (pe_op op_add (pe_ix (ix_listK (K := K) rfl) (pv 0) pe_int (fun _ _ => rfl)) pe_int) (pg_sub (pv 0) pe_int set_list))))
    pss_nil)
    (pss_cons (ps_if (pt_cmpR op_eq (pe_ix (ix_listK (K := K) rfl) (pv 0) pe_int (fun _ _ => rfl)) pe_int (nomark _))
    (pss_cons (ps_asg (pe_op op_mod (pe_callTy call_int1 (by rfl) T.n_int (by decide +kernel) (pa_cons (pe_op op_add (pe_op op_mulW (pe_ix (ix_listK (K := K) rfl) (pv 0) pe_int (fun _ _ => rfl)) pe_int) pe_int) pa_nil)) pe_int) (pg_sub (pv 0) pe_int set_list))
    (pss_one (ps_ret (pe_op op_mod (pe_callTy call_int1 (by rfl) T.n_int (by decide +kernel) (pa_cons (pe_op op_fdivG (pe_ix (ix_listK (K := K) rfl) (pv 0) pe_int (fun _ _ => rfl)) pe_int) pa_nil)) (pv 1)))))
    pss_nil)
    (pss_cons (ps_set (i := 2) sc__law_draw.nd rfl (Or.inl rfl) (pe_op op_mod (pe_callTy call_int1 (by rfl) T.n_int (by decide +kernel) (pa_cons (pe_ix (ix_listK (K := K) rfl) (pv 0) pe_int (fun _ _ => rfl)) pa_nil)) (pv 1)))
    (pss_cons (ps_asg (pe_op op_fdivG (pe_ix (ix_listK (K := K) rfl) (pv 0) pe_int (fun _ _ => rfl)) (pv 1)) (pg_sub (pv 0) pe_int set_list))
    (pss_one (ps_ret (pv 2)))))))), ?_⟩
    refine r_open hs (fun i j m hj => ?_)
    have hls : l ≠ s0 := ne_of hl hs (by intro z; cases z)
    refine r_cut (fun σ H' => σ = [some (.ref s0), some (.int n), none] ∧ ∃ i j, okS j m ∧ H' = upd H s0 (.lst (cellsV l i j m))) ?_ ?_
    · have hl' : ∀ o, SqL K (upd H s0 o) l (ns.map V.int) := fun o => SqL.of (by rw [upd_ne hls]; exact hl)
      walk_at "go"
      refine ite_d (fun c1 => ?_) (fun c1 => ?_)
      · walk_at "go"
        refine ⟨_, _, rfl, .inl (hl' _), ?_⟩
        walk_at "go"
        refine ite_d (fun c2 => ?_) (fun c2 => ?_)
        · obtain ⟨z, hz⟩ := atI_ints hj.1 c2
          walk_at "go"
          refine r_ixL (hl' _) hz ?_
          walk_at "go"
          exact ⟨rfl, _, j + 1, ⟨by have := hj.1; omega, hj.2⟩, by rw [upd_upd, upd_upd] <;> rfl⟩
        · walk_at "go"
          exact ⟨rfl, i, j, hj, rfl⟩
      · walk_at "go"
        exact ⟨rfl, i, j, hj, rfl⟩
    · rintro σ H' ⟨rfl, i, j, hj, rfl⟩
      walk_at "go"
      refine ite_d (fun c1 => ?_) (fun c1 => ?_)
      · walk_at "go"
        refine ⟨mulW31 hj.2.1 hj.2.2 (by decide) (by decide), ?_⟩
        walk_at "go"
        refine ⟨cdivG (b := 64) (by omega) (by omega) (by decide) (by decide), ?_⟩
        walk_at "go"
        refine ⟨i, j, (m * 48271 + 11) % 2147483647, upd_same, ⟨hj.1, by omega, by omega⟩, ?_⟩
        rw [upd_back2 hs]
        exact k _ (Int.emod_nonneg _ (by omega)) (Int.emod_lt_of_pos _ h0)
      · walk_at "go"
        refine ⟨cdivG (b := 64) (by omega) (by omega) (by decide) (by decide), ?_⟩
        walk_at "go"
        refine ⟨i.fdiv n, j, m, upd_same, hj, ?_⟩
        rw [upd_back2 hs]
        exact k _ (Int.emod_nonneg _ (by omega)) (Int.emod_lt_of_pos _ h0)
/-- a draw: any number below -/
theorem draw_at {s : Addr} {n : Int} {H : Hp} {Q : VK} {E : XK} (hS : Strm H s) (h0 : 0 < n) (h1 : n < 18446744073709551616) (k : ∀ v, 0 ≤ v → v < n → Q (.int v) H) : spDraw [.ref s, .int n] H Q E := ⟨s, n, rfl, hS, h0, h1, k⟩
theorem ok__law_stream (T : Top w K mg) : FnOk P w K mg base CX0 1 (He.ga K ("_law_stream" : Str)) (fdOf K d__law_stream) ["script"] (spStream K) := by
  refine (T.f__law_stream).ok sc__law_stream (fun vs H Q E h => ?_) (fun cdv A outer s H vs Q E hr h => ?_)
  · obtain ⟨a, n, rfl, _⟩ := h
    rfl
  · obtain ⟨a, ns, rfl, hS, h63, k⟩ := h
    refine ⟨_, PSs.nox (pss_shut (pss_cons (ps_set (i := 1) sc__law_stream.nd rfl (Or.inl rfl) pe_int)
    (pss_cons (ps_for PassesOwn.never rfl (pi_listK (K := K) rfl (pv 0)) (pg_name (i := 2) sc__law_stream.nd rfl (Or.inl rfl))
    (pss_one (ps_set (i := 1) sc__law_stream.nd rfl (Or.inl rfl) (pe_op op_mod (pe_callTy call_int1 (by rfl) T.n_int (by decide +kernel) (pa_cons (pe_op op_add (pe_op op_add (pe_op op_mulW (pv 1) pe_int) (pe_op op_mod (pe_callTy call_int1 (by rfl) T.n_int (by decide +kernel) (pa_cons (pv 2) pa_nil)) pe_int)) pe_int) pa_nil)) pe_int))))
    (pss_one (ps_ret (pe_lst (pa_cons (pe_callTy (call_listK (K := K) rfl) (by rfl) T.n_list (by decide +kernel) (pa_cons (pv 0) pa_nil)) (pa_cons pe_int (pa_cons pe_int (pa_cons (pv 1) pa_nil)))))))))), ?_⟩
    refine r_shut ?_
    walk_at "go"
    refine ⟨⟨_, hS⟩, for_lst (xs := ns.map V.int) (fun i σ H' => H' = H ∧ ∃ (m : Int) (v : Option V), σ = [some (.ref a), some (.int m), v] ∧ 0 ≤ m ∧ m < 2147483648) ⟨rfl, 17, none, rfl, by omega, by omega⟩ (fun i σ H' _ h => by rw [h.1]; exact hS) ?_ ?_⟩
    · rintro i x σ H' hx ⟨rfl, m, v, rfl, h0, h1⟩
      obtain ⟨z, hz, rfl⟩ := item_int hx
      walk_at "go"
      refine ⟨mulW31 h0 h1 (by decide) (by decide), ?_⟩
      walk_at "go"
      exact ⟨rfl, _, _, rfl, Int.emod_nonneg _ (by omega), by show _ % (2147483647 : Int) < _; omega⟩
    · rintro σ H' ⟨rfl, m, v, rfl, h0, h1⟩
      walk_at "go"
      refine ⟨_, _, rfl, .inl hS, fun l hl => ?_⟩
      walk_at "go"
      refine ⟨by show 4 ≤ sizeLine; decide, fun p hp => ?_⟩
      have hlp : l ≠ p := ne_of_none upd_same hp
      have s1 : Same H' (upd H' l (.lst (ns.map V.int))) := same_new hl
      have hp0 : H' p = none := s1.free hp
      refine ⟨p, l, 0, 0, m, rfl, upd_same, ⟨by omega, h0, h1⟩, k p _ (fun b o e => ?_) ⟨l, ns, upd_same, by rw [upd_ne hlp, upd_ne hlp, upd_same], h63⟩⟩
      rw [upd_ne (ne_of_none e hp0), upd_ne (ne_of_none e hp0)]
      exact s1 b o e
end
/-! ### the law's pair in lowest terms -/
def gcdI (n d : Int) : Int := ((Nat.gcd n.natAbs d.natAbs : Nat) : Int)
def sgc (n d : Int) : Int := if d < 0 then -gcdI n d else gcdI n d
def pn (n d : Int) : Int := n.fdiv (sgc n d)
def pd (n d : Int) : Int := d.fdiv (sgc n d)
theorem gcdI_pos {n d : Int} (h : d ≠ 0) : 0 < gcdI n d := by
  have : 0 < Nat.gcd n.natAbs d.natAbs := Nat.gcd_pos_of_pos_right _ (Int.natAbs_pos.mpr h)
  unfold gcdI
  omega
theorem sgc_ne {n d : Int} (h : d ≠ 0) : sgc n d ≠ 0 := by
  have := gcdI_pos (n := n) h
  unfold sgc
  split <;> omega
theorem sgc_abs {n d : Int} (h : d ≠ 0) : (sgc n d).natAbs ≤ d.natAbs := by
  have h1 : Nat.gcd n.natAbs d.natAbs ≤ d.natAbs := Nat.gcd_le_right _ (Int.natAbs_pos.mpr h)
  unfold sgc gcdI
  split <;> omega
/-! ### lowest terms -/
structure Low (n d : Int) : Prop where
  pos : 0 < d
  cop : Nat.gcd n.natAbs d.natAbs = 1
theorem sgc_nat (n d : Int) : (sgc n d).natAbs = Nat.gcd n.natAbs d.natAbs := by
  unfold sgc gcdI
  split
  · rw [Int.natAbs_neg, Int.natAbs_natCast]
  · rw [Int.natAbs_natCast]
theorem sgc_dvd_n (n d : Int) : sgc n d ∣ n := Int.natAbs_dvd_natAbs.mp (by rw [sgc_nat]; exact Nat.gcd_dvd_left _ _)
theorem sgc_dvd_d (n d : Int) : sgc n d ∣ d := Int.natAbs_dvd_natAbs.mp (by rw [sgc_nat]; exact Nat.gcd_dvd_right _ _)
theorem pn_mul (n d : Int) : pn n d * sgc n d = n := Int.fdiv_mul_cancel (sgc_dvd_n n d)
theorem pd_mul (n d : Int) : pd n d * sgc n d = d := Int.fdiv_mul_cancel (sgc_dvd_d n d)
theorem low_of {n d : Int} (h : d ≠ 0) : Low (pn n d) (pd n d) := by
  have hs := sgc_ne (n := n) h
  have e1 := pn_mul n d
  have e2 := pd_mul n d
  have g0 : 0 < (sgc n d).natAbs := Int.natAbs_pos.mpr hs
  refine ⟨?_, ?_⟩
  · rcases Int.lt_trichotomy d 0 with c | c | c
    · have s0 : sgc n d < 0 := by
        have := gcdI_pos (n := n) h
        unfold sgc
        rw [if_pos c]
        omega
      rcases Int.lt_or_le 0 (pd n d) with p | p
      · exact p
      · have := Int.mul_nonneg_of_nonpos_of_nonpos p (Int.le_of_lt s0)
        rw [e2] at this
        omega
    · exact absurd c h
    · have s0 : 0 < sgc n d := by
        have := gcdI_pos (n := n) h
        unfold sgc
        rw [if_neg (by omega)]
        exact this
      rcases Int.lt_or_le 0 (pd n d) with p | p
      · exact p
      · have := Int.mul_nonpos_of_nonpos_of_nonneg p (Int.le_of_lt s0)
        rw [e2] at this
        omega
  · have a1 : n.natAbs = (pn n d).natAbs * (sgc n d).natAbs := by rw [← Int.natAbs_mul, e1]
    have a2 : d.natAbs = (pd n d).natAbs * (sgc n d).natAbs := by rw [← Int.natAbs_mul, e2]
    have a3 := sgc_nat n d
    have a4 : Nat.gcd ((pn n d).natAbs * (sgc n d).natAbs) ((pd n d).natAbs * (sgc n d).natAbs) = (sgc n d).natAbs := by
      rw [← a1, ← a2, a3]
    rw [Nat.gcd_mul_right] at a4
    exact Nat.eq_of_mul_eq_mul_right g0 (by rw [a4, Nat.one_mul])
theorem sgc_low {n d : Int} (h : Low n d) : sgc n d = 1 := by
  have hp := h.pos
  unfold sgc gcdI
  rw [if_neg (by omega), h.cop] <;> rfl
theorem pn_low {n d : Int} (h : Low n d) : pn n d = n := by unfold pn; rw [sgc_low h, Int.fdiv_one]
theorem pd_low {n d : Int} (h : Low n d) : pd n d = d := by unfold pd; rw [sgc_low h, Int.fdiv_one]
theorem pn_le {n d : Int} (h : d ≠ 0) : (pn n d).natAbs ≤ n.natAbs := by
  have a1 : n.natAbs = (pn n d).natAbs * (sgc n d).natAbs := by rw [← Int.natAbs_mul, pn_mul]
  have g0 : 0 < (sgc n d).natAbs := Int.natAbs_pos.mpr (sgc_ne h)
  rw [a1]
  exact Nat.le_mul_of_pos_right _ g0
theorem pd_le {n d : Int} (h : d ≠ 0) : (pd n d).natAbs ≤ d.natAbs := by
  have a1 : d.natAbs = (pd n d).natAbs * (sgc n d).natAbs := by rw [← Int.natAbs_mul, pd_mul]
  have g0 : 0 < (sgc n d).natAbs := Int.natAbs_pos.mpr (sgc_ne h)
  rw [a1]
  exact Nat.le_mul_of_pos_right _ g0
theorem Low.neg {n d : Int} (h : Low n d) : Low (-n) d := ⟨h.pos, by rw [Int.natAbs_neg]; exact h.cop⟩
/-! ### powers -/
theorem Low.pow {n d : Int} (h : Low n d) (i : Nat) : Low (n ^ i) (d ^ i) := ⟨Int.pow_pos h.pos, by rw [Int.natAbs_pow, Int.natAbs_pow]; exact Nat.Coprime.pow i i h.cop⟩
theorem Low.flip {n d : Int} (h : Low n d) (h0 : 0 < n) : Low d n := ⟨h0, by rw [Nat.gcd_comm]; exact h.cop⟩
theorem bits_pow {b : Nat} {n : Int} (h : Bits b n) : ∀ i : Nat, Bits (b * i + 1) (n ^ i)
  | 0 => by show Int.natAbs (n ^ 0) < _; rw [Int.pow_zero]; exact Nat.one_lt_two_pow (by omega)
  | i + 1 => by
    rw [Int.pow_succ]
    exact ((bits_pow h i).mul h).mono (by rw [Nat.mul_add]; omega)
theorem pn_flip {n d : Int} (h : Low n d) (h0 : n ≠ 0) : (0 < n ∧ pn d n = d ∧ pd d n = n) ∨ (n < 0 ∧ pn d n = -d ∧ pd d n = -n) := by
  rcases Int.lt_or_gt_of_ne h0 with c | c
  · refine .inr ⟨c, ?_, ?_⟩
    · have e : sgc d n = -1 := by
        unfold sgc gcdI
        rw [if_pos c, Nat.gcd_comm, h.cop] <;> rfl
      unfold pn
      rw [e]
      have := Int.fdiv_mul_cancel (a := d) (b := -1) (Int.neg_dvd.mpr (Int.one_dvd d))
      omega
    · have e : sgc d n = -1 := by
        unfold sgc gcdI
        rw [if_pos c, Nat.gcd_comm, h.cop] <;> rfl
      unfold pd
      rw [e]
      have := Int.fdiv_mul_cancel (a := n) (b := -1) (Int.neg_dvd.mpr (Int.one_dvd n))
      omega
  · exact .inl ⟨c, pn_low (h.flip c), pd_low (h.flip c)⟩
theorem neg_pows (u v : Int) : ∀ m : Nat, ((-v) ^ m = v ^ m ∧ (-u) ^ m = u ^ m) ∨ ((-v) ^ m = -(v ^ m) ∧ (-u) ^ m = -(u ^ m))
  | 0 => .inl ⟨by rw [Int.pow_zero, Int.pow_zero], by rw [Int.pow_zero, Int.pow_zero]⟩
  | m + 1 => by
    rw [Int.pow_succ, Int.pow_succ, Int.pow_succ, Int.pow_succ]
    rcases neg_pows u v m with ⟨h1, h2⟩ | ⟨h1, h2⟩
    · refine .inr ⟨?_, ?_⟩
      · rw [h1, Int.mul_neg]
      · rw [h2, Int.mul_neg]
    · refine .inl ⟨?_, ?_⟩
      · rw [h1, Int.neg_mul_neg]
      · rw [h2, Int.neg_mul_neg]
def sn (n d : Int) : Int := if d < 0 then 0 - n else n
def sd (n d : Int) : Int := if d < 0 then 0 - d else d
theorem signed_pow {u v : Int} (h : Low u v) (h0 : u ≠ 0) (m : Nat) : sn (v ^ m) (u ^ m) = pn v u ^ m ∧ sd (v ^ m) (u ^ m) = pd v u ^ m := by
  rcases pn_flip h h0 with ⟨c, e1, e2⟩ | ⟨c, e1, e2⟩
  · have p : 0 < u ^ m := Int.pow_pos c
    rw [e1, e2]
    exact ⟨if_neg (by omega), if_neg (by omega)⟩
  · have p : 0 < (-u) ^ m := Int.pow_pos (by omega)
    rw [e1, e2]
    rcases neg_pows u v m with ⟨h1, h2⟩ | ⟨h1, h2⟩
    · exact ⟨by rw [h1]; exact if_neg (by omega), by rw [h2]; exact if_neg (by omega)⟩
    · refine ⟨?_, ?_⟩
      · rw [h1, sn, if_pos (by omega)]; omega
      · rw [h2, sd, if_pos (by omega)]; omega
theorem signed_pos {n d : Int} (h : 0 < d) : sn n d = n ∧ sd n d = d := ⟨if_neg (by omega), if_neg (by omega)⟩
section
variable {P : Program} {w : World} {K : PySem.W.Frag} {mg : Str → Option Value} {base : Heap}
def spPair : Sp := fun vs H Q _ => ∃ n d : Int, vs = [.int n, .int d] ∧ d ≠ 0 ∧ Bits 8000 d ∧ ∀ p H', Same H H' → H' p = some (.tup [.int (pn n d), .int (pd n d)]) → Q (.ref p) H'
theorem ok__law_pair (T : Top w K mg) : FnOk P w K mg base CX0 1 (He.ga K ("_law_pair" : Str)) (fdOf K d__law_pair) ["n", "d"] spPair := by
  refine (T.f__law_pair).ok sc__law_pair (fun vs H Q E h => ?_) (fun cdv A outer s H vs Q E hr h => ?_)
  · obtain ⟨n, d, rfl, _⟩ := h
    rfl
  · obtain ⟨n, d, rfl, hd, hb, k⟩ := h
    refine ⟨_, PSs.nox (pss_cons (ps_set (i := 2) sc__law_pair.nd rfl (Or.inl rfl) (pe_callB call_abs (by rfl) T.n_abs (by decide +kernel) (pa_cons (pv 0) pa_nil)))
    (pss_cons (ps_set (i := 3) sc__law_pair.nd rfl (Or.inl rfl) (pe_callB call_abs (by rfl) T.n_abs (by decide +kernel) (pa_cons (pv 1) pa_nil)))
    (pss_cons (ps_while PassesOwn.never (pt_cmpR op_gt (pv 3) pe_int (nomark _))
    (pss_one (ps_par (i := 2) (j := 3) (by rfl) sc__law_pair.nd rfl rfl (by decide) rfl rfl (pa_cons (pv 3) (pa_cons (pe_op op_mod (pe_callTy call_int1 (by rfl) T.n_int (by decide +kernel) (pa_cons (pv 2) pa_nil)) (pe_callTy call_int1 (by rfl) T.n_int (by decide +kernel) (pa_cons (pv 3) pa_nil))) pa_nil)) (by rfl))))
    (C8.pss_cut (ps_if (pt_cmpR op_lt (pv 1) pe_int (nomark _))
    (pss_one (ps_set (i := 2) sc__law_pair.nd rfl (Or.inl rfl) (pe_op op_sub pe_int (pv 2))))
    pss_nil)
    (pss_one (ps_ret (pe_tup (pa_cons (pe_op op_fdivG (pv 0) (pv 2)) (pa_cons (pe_op op_fdivG (pv 1) (pv 2)) pa_nil))))))))), ?_⟩
    walk_at "go"
    refine r_while (fun m σ H' => H' = H ∧ ∃ x y : Nat, σ = [some (.int n), some (.int d), some (.int x), some (.int y)] ∧ Nat.gcd x y = Nat.gcd n.natAbs d.natAbs ∧ m = y) d.natAbs ⟨rfl, n.natAbs, d.natAbs, ?_, rfl, rfl⟩ ?_
    · have e1 : (if n < 0 then -n else n) = ((n.natAbs : Nat) : Int) := by split <;> omega
      have e2 : (if d < 0 then -d else d) = ((d.natAbs : Nat) : Int) := by split <;> omega
      rw [e1, e2] <;> rfl
    · rintro m σ H' ⟨rfl, x, y, rfl, hg, rfl⟩
      walk_at "go"
      refine ite_d (fun c => ?_) (fun c => ?_)
      · refine ⟨_, fun _ _ z => z, ?_⟩
        walk_at "go"
        have hy : 0 < m := by omega
        refine ⟨x % m, Nat.mod_lt _ hy, rfl, m, x % m, ?_, ?_, rfl⟩
        · rfl
        · rw [← hg, Nat.gcd_comm x m, Nat.gcd_rec m x, Nat.gcd_comm]
      · have hy : m = 0 := by omega
        subst hy
        rw [Nat.gcd_zero_right] at hg
        have ex : (x : Int) = gcdI n d := by rw [hg] <;> rfl
        refine r_cut (fun σ H2 => σ = [some (.int n), some (.int d), some (.int (sgc n d)), some (.int 0)] ∧ H2 = H') ?_ ?_
        · walk_at "go"
          refine ite_d (fun c => ?_) (fun c => ?_)
          · walk_at "go"
            refine ⟨?_, rfl⟩
            have e : sgc n d = 0 - (x : Int) := by rw [ex, sgc, if_pos c]; omega
            rw [e] <;> rfl
          · walk_at "go"
            refine ⟨?_, rfl⟩
            have e : sgc n d = (x : Int) := by rw [ex, sgc, if_neg c]
            rw [e] <;> rfl
        · rintro σ H2 ⟨rfl, rfl⟩
          have cd : ∀ i, CDivG i (sgc n d) := fun i => Bits.divG (sgc_ne hd) (Bits.of_le (sgc_abs hd) hb) (by decide)
          walk_at "go"
          refine ⟨cd _, ?_⟩
          walk_at "go"
          refine ⟨cd _, ?_⟩
          walk_at "go"
          refine ⟨by show 2 ≤ sizeLine; decide, fun p hp => k p _ (same_new hp) upd_same⟩
end
section
variable {P : Program} {w : World} {K : PySem.W.Frag} {mg : Str → Option Value} {base : Heap}
/-! ### drawn whole numbers -/
def spFar : Sp := fun vs H Q _ => ∃ s : Addr, vs = [.ref s] ∧ Strm H s ∧ ∀ v, Bits 600 v → Q (.int v) H
theorem ok__law_far (T : Top w K mg) : FnOk P w K mg base CX0 2 (He.ga K ("_law_far" : Str)) (fdOf K d__law_far) ["stream"] spFar := by
  refine (T.f__law_far).ok sc__law_far (fun vs H Q E h => ?_) (fun cdv A outer s H vs Q E hr h => ?_)
  · obtain ⟨s, rfl, _⟩ := h
    rfl
  · obtain ⟨s0, rfl, hS, k⟩ := h
    refine ⟨_, PSs.nox (pss_cons (ps_set (i := 1) sc__law_far.nd rfl (Or.inl rfl) pe_int)
    (pss_cons (ps_for PassesOwn.never rfl (pi_range1 rfl T.n_range (pa_cons (pe_op op_add pe_int (pe_call (ok__law_draw (K := K) T) (hr.mono (by decide)) rfl T.g__law_draw T.f__law_draw.kp T.b__law_draw .nil pass0 (pa_cons (pv 0) (pa_cons pe_int pa_nil)))) pa_nil)) (pg_name (i := 2) sc__law_far.nd rfl (Or.inl rfl))
    (pss_one (ps_set (i := 1) sc__law_far.nd rfl (Or.inl rfl) (pe_op op_add (pe_op op_mulW (pv 1) (pe_op op_pow pe_int pe_int)) (pe_call (ok__law_draw (K := K) T) (hr.mono (by decide)) rfl T.g__law_draw T.f__law_draw.kp T.b__law_draw .nil pass0 (pa_cons (pv 0) (pa_cons (pe_op op_pow pe_int pe_int) pa_nil)))))))
    (pss_one (ps_ret (pv 1))))), ?_⟩
    walk_at "go"
    intro v h0 h1
    walk_at "go"
    refine for_rng (fun i σ H' => H' = H ∧ ∃ (f : Int) (v : Option V), σ = [some (.ref s0), some (.int f), v] ∧ Bits (40 * i + 64) f) ⟨rfl, 0, none, rfl, by show (0 : Int).natAbs < _; decide⟩ ?_ ?_
    · rintro i σ H' hi ⟨rfl, f, v', rfl, hf⟩
      walk_at "go"
      refine ⟨Bits.mulW (b := 64) hf (by show (_ : Int).natAbs < _; decide) (by omega), ?_⟩
      walk_at "go"
      intro v h2 h3
      have e10 : (10 : Int) ^ Int.toNat 10 = 10000000000 := by decide
      rw [e10] at h3
      walk_at "go"
      refine ⟨rfl, _, _, rfl, ?_⟩
      refine Bits.add (a := 40 * i + 64 + 34) (b := 64) (hf.mul (show Bits 34 _ from ?_)) (Bits.small (by omega) (by omega)) (by omega) (by omega)
      show Int.natAbs _ < 2 ^ 34
      rw [e10]
      decide
    · rintro σ H' ⟨rfl, f, v', rfl, hf⟩
      walk_at "go"
      exact k f (hf.mono (by omega))
def spWhole : Sp := fun vs H Q _ => ∃ s : Addr, vs = [.ref s] ∧ Strm H s ∧ ∀ v, Bits 700 v → Q (.int v) H
theorem ok__law_whole (T : Top w K mg) : FnOk P w K mg base CX0 3 (He.ga K ("_law_whole" : Str)) (fdOf K d__law_whole) ["stream"] spWhole := by
  refine (T.f__law_whole).ok sc__law_whole (fun vs H Q E h => ?_) (fun cdv A outer s H vs Q E hr h => ?_)
  · obtain ⟨s, rfl, _⟩ := h
    rfl
  · obtain ⟨s0, rfl, hS, k⟩ := h
    refine ⟨_, PSs.nox (pss_cons (ps_set (i := 1) sc__law_whole.nd rfl (Or.inl rfl) (pe_call (ok__law_draw (K := K) T) (hr.mono (by decide)) rfl T.g__law_draw T.f__law_draw.kp T.b__law_draw .nil pass0 (pa_cons (pv 0) (pa_cons pe_int pa_nil))))
    (pss_cons (ps_if (pt_cmpR op_lt (pv 1) pe_int (nomark _))
    (pss_one (ps_ret (pe_op op_sub (pe_call (ok__law_draw (K := K) T) (hr.mono (by decide)) rfl T.g__law_draw T.f__law_draw.kp T.b__law_draw .nil pass0 (pa_cons (pv 0) (pa_cons pe_int pa_nil))) pe_int)))
    pss_nil)
    (pss_cons (ps_if (pt_cmpR op_eq (pv 1) pe_int (nomark _))
    (pss_one (ps_ret (pe_op op_add (pe_op op_sub (pe_op op_mulW (pe_op op_pow pe_int pe_int) (pe_op op_pow pe_int pe_int)) pe_int) (pe_call (ok__law_draw (K := K) T) (hr.mono (by decide)) rfl T.g__law_draw T.f__law_draw.kp T.b__law_draw .nil pass0 (pa_cons (pv 0) (pa_cons pe_int pa_nil))))))
    pss_nil)
    (pss_one (ps_ret (pe_op op_mulW (pe_call (ok__law_far (K := K) T) (hr.mono (by decide)) rfl T.g__law_far T.f__law_far.kp T.b__law_far .nil pass0 (pa_cons (pv 0) pa_nil)) (pe_op op_sub pe_int (pe_op op_mulW pe_int (pe_call (ok__law_draw (K := K) T) (hr.mono (by decide)) rfl T.g__law_draw T.f__law_draw.kp T.b__law_draw .nil pass0 (pa_cons (pv 0) (pa_cons pe_int pa_nil))))))))))), ?_⟩
    walk_at "go"
    intro v h0 h1
    walk_at "go"
    refine ite_d (fun c => ?_) (fun c => ?_)
    · walk_at "go"
      intro v h2 h3
      walk_at "go"
      exact k _ (Bits.small (by omega) (by decide))
    · walk_at "go"
      refine ite_d (fun c2 => ?_) (fun c2 => ?_)
      · walk_at "go"
        have e60 : Bits 200 ((10 : Int) ^ Int.toNat 60) := by show Int.natAbs _ < 2 ^ 200; decide +kernel
        refine ⟨Bits.mulW e60 e60 (by decide), ?_⟩
        walk_at "go"
        intro v h2 h3
        walk_at "go"
        exact k _ (Bits.add (a := 401) (b := 64) (Bits.sub (a := 400) (b := 64) (e60.mul e60) (Bits.small (by decide) (by decide)) (by decide) (by decide)) (Bits.small (by omega) (by decide)) (by decide) (by decide))
      · walk_at "go"
        intro f hf
        walk_at "go"
        intro v h2 h3
        walk_at "go"
        have b2 : Bits 64 (2 * v) := Bits.small (by omega) (by decide)
        refine ⟨Bits.mulW (a := 64) (b := 64) (Bits.small (by decide) (by decide)) (Bits.small (by omega) (by decide)) (by decide), ?_⟩
        walk_at "go"
        have b3 : Bits 64 (1 - 2 * v) := Bits.small (by omega) (by decide)
        refine ⟨Bits.mulW hf b3 (by decide), ?_⟩
        exact k _ ((hf.mul b3).mono (by decide))
end
section
variable {P : Program} {w : World} {K : PySem.W.Frag} {mg : Str → Option Value} {base : Heap}
/-! ### Ratios -/
def rfl2 (n d : Int) : List (Str × V) := [("top", .int n), ("bottom", .int d)]
theorem r2_top (n d : Int) : (rfl2 n d).lookup ("top" : Str) = some (.int n) := rfl
theorem r2_bot (n d : Int) : (rfl2 n d).lookup ("bottom" : Str) = some (.int d) := by
  show (match (("bottom" : Str) == "top") with | true => some (V.int n) | false => List.lookup ("bottom" : Str) [("bottom", V.int d)]) = some (.int d)
  rw [show ((("bottom" : Str) == "top") = false) from by decide +kernel]
  rfl
theorem r2_put (n d : Int) : putF "bottom" (.int d) (putF "top" (.int n) []) = rfl2 n d := by
  show (if ("top" : Str) = "bottom" then [(("top" : Str), V.int d)] else (("top" : Str), V.int n) :: putF "bottom" (V.int d) []) = rfl2 n d
  rw [if_neg (show ¬ (("top" : Str) = "bottom") from by decide +kernel)]
  rfl
def RatAt (K : PySem.W.Frag) (H : Hp) (x : Addr) (n d : Int) : Prop := ∃ dx, H x = some (.ins (He.ga K "Ratio") dx (rfl2 n d))
theorem RatAt.mono {H H' : Hp} {x : Addr} {n d : Int} (h : RatAt K H x n d) (e : Same H H') : RatAt K H' x n d := by
  obtain ⟨dx, h⟩ := h
  exact ⟨dx, e _ _ h⟩
def spInit (K : PySem.W.Frag) : Sp := fun vs H Q E => ∃ (x dx : Addr) (n d : Int), vs = [.ref x, .int n, .int d] ∧ H x = some (.ins (He.ga K "Ratio") dx []) ∧ Bits 8000 d ∧ (d = 0 → E (.ref (He.ga K "ByZero")) none H) ∧
  (d ≠ 0 → Q .non (upd H x (.ins (He.ga K "Ratio") dx (rfl2 (pn n d) (pd n d)))))
theorem ok_Ratio___init__ (T : Top w K mg) : FnOk P w K mg base (L2.CX P w) 1 (He.ma K (He.ga K ("Ratio" : Str)) ("__init__" : Str)) (fdOf K d_Ratio___init__) ["self", "numerator", "denominator"] (spInit K) := by
  refine (T.f_Ratio___init__).ok sc_Ratio___init__ (fun vs H Q E h => ?_) (fun cdv A outer s H vs Q E hr h => ?_)
  · obtain ⟨x, dx, n, d, rfl, _⟩ := h
    rfl
  · obtain ⟨x, dx, n, d, rfl, hx, hb, k0, k1⟩ := h
    refine ⟨_, (pss_cons (ps_if (pt_cmpR op_eq (pv 2) pe_int (nomark _))
    (pss_one (ps_raise rfl (takes_of rfl rfl rfl rfl) (pmk_own PySem.F.excBase_ValueError T.exc_ByZero.1 T.g_ByZero T.exc_ByZero.2.1 (raises_own T.exc_ByZero.2.2.1 T.exc_ByZero.2.2.2) rfl)))
    pss_nil)
    (pss_cons (ps_set (i := 3) sc_Ratio___init__.nd rfl (Or.inl rfl) (pe_callBfun cr_gcd rfl T.gcdM (pa_cons (pv 1) (pa_cons (pv 2) pa_nil))))
    (C8.pss_cut (ps_if (pt_cmpR op_lt (pv 2) pe_int (nomark _))
    (pss_one (ps_set (i := 3) sc_Ratio___init__.nd rfl (Or.inl rfl) (pe_un un_neg (pv 3))))
    pss_nil)
    (pss_cons (ps_fldK (K := K) rfl (pv 0) (pe_op op_fdivG (pv 1) (pv 3)) rfl)
    (pss_one (ps_fldK (K := K) rfl (pv 0) (pe_op op_fdivG (pv 2) (pv 3)) rfl)))))), ?_⟩
    walk_at "go"
    refine ite_d (fun c => ?_) (fun c => ?_)
    · exact k0 (vint_inj c)
    · walk_at "go"
      have hd : d ≠ 0 := vint_ne c
      refine r_cut (fun σ H' => σ = [some (.ref x), some (.int n), some (.int d), some (.int (sgc n d))] ∧ H' = H) ?_ ?_
      · walk_at "go"
        refine ite_d (fun c => ?_) (fun c => ?_)
        · walk_at "go"
          refine ⟨?_, rfl⟩
          have e : sgc n d = -(((n.natAbs.gcd d.natAbs : Nat)) : Int) := by rw [sgc, if_pos c] <;> rfl
          rw [e] <;> rfl
        · walk_at "go"
          refine ⟨?_, rfl⟩
          have e : sgc n d = (((n.natAbs.gcd d.natAbs : Nat)) : Int) := by rw [sgc, if_neg c] <;> rfl
          rw [e] <;> rfl
      · rintro σ H' ⟨rfl, rfl⟩
        have cd : ∀ i, CDivG i (sgc n d) := fun i => Bits.divG (sgc_ne hd) (Bits.of_le (sgc_abs hd) hb) (by decide)
        walk_at "go"
        refine ⟨cd _, ?_⟩
        walk_at "go"
        refine ⟨_, _, _, _, rfl, hx, T.cls_Ratio, T.na_Ratio_top, (by show 0 < 1000; decide), ?_⟩
        walk_at "go"
        refine ⟨cd _, ?_⟩
        walk_at "go"
        refine ⟨_, _, _, _, rfl, upd_same, T.cls_Ratio, T.na_Ratio_bottom, (by show 1 < 1000; decide), ?_⟩
        have z := k1 hd
        rw [upd_upd]
        have e := r2_put (pn n d) (pd n d)
        show Q .non (upd H' x (.ins _ dx (putF "bottom" (.int (pd n d)) (putF "top" (.int (pn n d)) []))))
        rw [e]
        exact z
end
section
variable {P : Program} {w : World} {K : PySem.W.Frag} {mg : Str → Option Value} {base : Heap}
/-- a value is the Ratio of a pair -/
def spIs (K : PySem.W.Frag) : Sp := fun vs H Q _ => ∃ (x p : Addr) (n d a b : Int), vs = [.ref x, .ref p] ∧ RatAt K H x n d ∧ SqT K H p [.int a, .int b] ∧ Q (.bl (decide (n = a) && decide (d = b))) H
theorem r_isiInt {H : Hp} {Q : VK} {n : Int} (T : Top w K mg) (h : Q (.bl false) H) : rIsi K [.int n, .ty "bool"] H Q := r_isi (.base (.int n)) (.ty _) (of_decide_eq_true T.x_kit_t_int_t_bool) h
theorem r_isiRat {H : Hp} {Q : VK} {x : Addr} {n d : Int} (T : Top w K mg) (r : RatAt K H x n d) (h : Q (.bl true) H) : rIsi K [.ref x, .ref (He.ga K "Ratio")] H Q := by
  obtain ⟨dx, r⟩ := r
  exact r_isi (isi_ins T.x_isi_Ratio T.cls_Ratio r) (.own _) (of_decide_eq_true T.x_kit_Ratio_Ratio) h
theorem ok__law_is (T : Top w K mg) : FnOk P w K mg base CX0 1 (He.ga K ("_law_is" : Str)) (fdOf K d__law_is) ["value", "pair"] (spIs K) := by
  refine (T.f__law_is).ok sc__law_is (fun vs H Q E h => ?_) (fun cdv A outer s H vs Q E hr h => ?_)
  · obtain ⟨x, p, n, d, a, b, rfl, _⟩ := h
    rfl
  · obtain ⟨x, p, n, d, a, b, rfl, r, hp, k⟩ := h
    obtain ⟨dx, hx⟩ := id r
    refine ⟨_, PSs.nox (pss_cons (ps_if (PW.pt (pw_or (pt_not (pt_val (pe_callB (call_isiK' (K := K) rfl) (by rfl) T.n_isinstance (by decide +kernel) (pa_cons (pv 0) (pa_cons (pe_glob (v := .ref (He.ga K ("Ratio" : Str))) rfl T.g_Ratio rfl) pa_nil))))) (pw_or (pt_val (pe_callB (call_isiK' (K := K) rfl) (by rfl) T.n_isinstance (by decide +kernel) (pa_cons (pe_fldK (K := K) rfl (pv 0) rfl) (pa_cons (pe_bltn (v := .ty "bool") rfl T.n_bool (by decide +kernel) rfl) pa_nil)))) (pw_or1 (pt_val (pe_callB (call_isiK' (K := K) rfl) (by rfl) T.n_isinstance (by decide +kernel) (pa_cons (pe_fldK (K := K) rfl (pv 0) rfl) (pa_cons (pe_bltn (v := .ty "bool") rfl T.n_bool (by decide +kernel) rfl) pa_nil))))))))
    (pss_one (ps_ret pe_bl))
    pss_nil)
    (pss_one (ps_ret (pe_and (pe_cmpR op_eq (pe_fldK (K := K) rfl (pv 0) rfl) (pe_ix (ix_tupK (K := K) rfl) (pv 1) pe_int (fun _ _ => rfl)) (nomark _)) (pe_one (pe_cmpR op_eq (pe_fldK (K := K) rfl (pv 0) rfl) (pe_ix (ix_tupK (K := K) rfl) (pv 1) pe_int (fun _ _ => rfl)) (nomark _))))))), ?_⟩
    walk_at "go"
    refine r_isiRat T r ?_
    walk_at "go"
    refine ⟨_, _, _, _, _, rfl, hx, T.cls_Ratio, T.na_Ratio_top, r2_top n d, ?_⟩
    walk_at "go"
    refine r_isiInt T ?_
    walk_at "go"
    refine ⟨_, _, _, _, _, rfl, hx, T.cls_Ratio, T.na_Ratio_bottom, r2_bot n d, ?_⟩
    walk_at "go"
    refine r_isiInt T ?_
    walk_at "go"
    refine ⟨_, _, _, _, _, rfl, hx, T.cls_Ratio, T.na_Ratio_top, r2_top n d, ?_⟩
    walk_at "go"
    refine r_ixT hp rfl ?_
    walk_at "go"
    refine ite_d (fun c => ?_) (fun c => ?_)
    · walk_at "go"
      refine ⟨_, _, _, _, _, rfl, hx, T.cls_Ratio, T.na_Ratio_bottom, r2_bot n d, ?_⟩
      walk_at "go"
      refine r_ixT hp rfl ?_
      walk_at "go"
      rw [decide_eq_true (vint_inj c), Bool.true_and] at k
      rw [dec_int, Bool.beq_eq_decide_eq]
      exact k
    · rw [decide_eq_false (vint_ne c), Bool.false_and] at k
      exact k
end
local macro_rules | `(tactic| walk_at "go2") => `(tactic| (refine ⟨_, _, _, _, _, rfl, (by assumption), Top.cls_Ratio (by assumption), Top.na_Ratio_top (by assumption), r2_top _ _, ?_⟩))
local macro_rules | `(tactic| walk_at "go2") => `(tactic| (refine ⟨_, _, _, _, _, rfl, (by assumption), Top.cls_Ratio (by assumption), Top.na_Ratio_bottom (by assumption), r2_bot _ _, ?_⟩))
/-! ### what the Ratios' operators hand back -/


theorem passL0 {X : Cx} : Passes CX0 X E0 := pass0
section
variable {P : Program} {w : World} {K : PySem.W.Frag} {mg : Str → Option Value} {base : Heap}
/-- a Ratio in lowest terms, of so many bits -/
structure Rt (K : PySem.W.Frag) (H : Hp) (x : Addr) (n d : Int) (b : Nat) : Prop where
  at_ : RatAt K H x n d
  low : Low n d
  bn : Bits b n
  bd : Bits b d
def spBin (K : PySem.W.Frag) (f g : Int → Int → Int → Int → Int) : Sp := fun vs H Q _ => ∃ (x y : Addr) (n d a b : Int), vs = [.ref x, .ref y] ∧ Rt K H x n d 3500 ∧ Rt K H y a b 3500 ∧
  ∀ z H', Same H H' → RatAt K H' z (pn (f n d a b) (g n d a b)) (pd (f n d a b) (g n d a b)) → Q (.ref z) H'
/-- a new Ratio by its promise, where the denominator is not 0 -/
theorem made_ok {H : Hp} {Q : VK} {E : XK} {n d : Int} (hd : d ≠ 0) (hb : Bits 8000 d) (k : ∀ z H', Same H H' → RatAt K H' z (pn n d) (pd n d) → Q (.ref z) H') (z dx : Addr) (nz : H z = none) (ndx : H dx = none) :
    spInit K [.ref z, .int n, .int d] (upd (upd H dx (.own z)) z (.ins (He.ga K "Ratio") dx [])) (fun v H2 => v = .non ∧ Q (.ref z) H2) E :=
  ⟨z, dx, n, d, rfl, upd_same, hb, fun h => absurd h hd, fun _ => ⟨rfl, k z _ (by rw [upd_upd]; exact same_mk nz ndx) ⟨dx, upd_same⟩⟩⟩
theorem Rt.mono {H H' : Hp} {x : Addr} {n d : Int} {b : Nat} (r : Rt K H x n d b) (e : Same H H') : Rt K H' x n d b := ⟨r.at_.mono e, r.low, r.bn, r.bd⟩
theorem ok_Ratio___add__ (T : Top w K mg) : FnOk P w K mg base CX0 3 (He.ma K (He.ga K ("Ratio" : Str)) ("__add__" : Str)) (fdOf K d_Ratio___add__) ["self", "other"] (spBin K (fun n d a b => n * b + a * d) (fun n d a b => d * b)) := by
  obtain ⟨ds1, B1⟩ := T.b1_Ratio___init__
  refine (T.f_Ratio___add__).ok sc_Ratio___add__ (fun vs H Q E h => ?_) (fun cdv A outer s H vs Q E hr h => ?_)
  · obtain ⟨x, y, n, d, a, b, rfl, _⟩ := h
    rfl
  · obtain ⟨x, y, n, d, a, b, rfl, rx, ry, k⟩ := h
    obtain ⟨⟨dx, hx⟩, px, b1, b2⟩ := rx
    obtain ⟨⟨dy, hy⟩, py, b3, b4⟩ := ry
    refine ⟨_, PSs.nox (pss_one (ps_ret (pe_make (C := He.ga K ("Ratio" : Str)) T.mk_Ratio (ok_Ratio___init__ (K := K) T) (hr.mono (by decide)) rfl T.g_Ratio (B1.2) (B1.1) passL (pa_cons (pe_op op_add (pe_op op_mulW (pe_fldK (K := K) rfl (pv 0) rfl) (pe_fldK (K := K) rfl (pv 1) rfl)) (pe_op op_mulW (pe_fldK (K := K) rfl (pv 1) rfl) (pe_fldK (K := K) rfl (pv 0) rfl))) (pa_cons (pe_op op_mulW (pe_fldK (K := K) rfl (pv 0) rfl) (pe_fldK (K := K) rfl (pv 1) rfl)) pa_nil))))), ?_⟩
    walk_at "go"
    refine ⟨Bits.mulW b1 b4 (by decide), ?_⟩
    walk_at "go"
    refine ⟨Bits.mulW b3 b2 (by decide), ?_⟩
    walk_at "go"
    refine ⟨Bits.mulW b2 b4 (by decide), ?_⟩
    walk_at "go"
    intro z dz nz ndz ne
    exact made_ok (Int.ne_of_gt (Int.mul_pos px.pos py.pos)) ((b2.mul b4).mono (by decide)) k z dz nz ndz
theorem ok_Ratio___sub__ (T : Top w K mg) : FnOk P w K mg base CX0 3 (He.ma K (He.ga K ("Ratio" : Str)) ("__sub__" : Str)) (fdOf K d_Ratio___sub__) ["self", "other"] (spBin K (fun n d a b => n * b - a * d) (fun n d a b => d * b)) := by
  obtain ⟨ds1, B1⟩ := T.b1_Ratio___init__
  refine (T.f_Ratio___sub__).ok sc_Ratio___sub__ (fun vs H Q E h => ?_) (fun cdv A outer s H vs Q E hr h => ?_)
  · obtain ⟨x, y, n, d, a, b, rfl, _⟩ := h
    rfl
  · obtain ⟨x, y, n, d, a, b, rfl, rx, ry, k⟩ := h
    obtain ⟨⟨dx, hx⟩, px, b1, b2⟩ := rx
    obtain ⟨⟨dy, hy⟩, py, b3, b4⟩ := ry
    refine ⟨_, PSs.nox (pss_one (ps_ret (pe_make (C := He.ga K ("Ratio" : Str)) T.mk_Ratio (ok_Ratio___init__ (K := K) T) (hr.mono (by decide)) rfl T.g_Ratio (B1.2) (B1.1) passL (pa_cons (pe_op op_sub (pe_op op_mulW (pe_fldK (K := K) rfl (pv 0) rfl) (pe_fldK (K := K) rfl (pv 1) rfl)) (pe_op op_mulW (pe_fldK (K := K) rfl (pv 1) rfl) (pe_fldK (K := K) rfl (pv 0) rfl))) (pa_cons (pe_op op_mulW (pe_fldK (K := K) rfl (pv 0) rfl) (pe_fldK (K := K) rfl (pv 1) rfl)) pa_nil))))), ?_⟩
    walk_at "go"
    refine ⟨Bits.mulW b1 b4 (by decide), ?_⟩
    walk_at "go"
    refine ⟨Bits.mulW b3 b2 (by decide), ?_⟩
    walk_at "go"
    refine ⟨Bits.mulW b2 b4 (by decide), ?_⟩
    walk_at "go"
    intro z dz nz ndz ne
    exact made_ok (Int.ne_of_gt (Int.mul_pos px.pos py.pos)) ((b2.mul b4).mono (by decide)) k z dz nz ndz
theorem ok_Ratio___mul__ (T : Top w K mg) : FnOk P w K mg base CX0 3 (He.ma K (He.ga K ("Ratio" : Str)) ("__mul__" : Str)) (fdOf K d_Ratio___mul__) ["self", "other"] (spBin K (fun n d a b => n * a) (fun n d a b => d * b)) := by
  obtain ⟨ds1, B1⟩ := T.b1_Ratio___init__
  refine (T.f_Ratio___mul__).ok sc_Ratio___mul__ (fun vs H Q E h => ?_) (fun cdv A outer s H vs Q E hr h => ?_)
  · obtain ⟨x, y, n, d, a, b, rfl, _⟩ := h
    rfl
  · obtain ⟨x, y, n, d, a, b, rfl, rx, ry, k⟩ := h
    obtain ⟨⟨dx, hx⟩, px, b1, b2⟩ := rx
    obtain ⟨⟨dy, hy⟩, py, b3, b4⟩ := ry
    refine ⟨_, PSs.nox (pss_one (ps_ret (pe_make (C := He.ga K ("Ratio" : Str)) T.mk_Ratio (ok_Ratio___init__ (K := K) T) (hr.mono (by decide)) rfl T.g_Ratio (B1.2) (B1.1) passL (pa_cons (pe_op op_mulW (pe_fldK (K := K) rfl (pv 0) rfl) (pe_fldK (K := K) rfl (pv 1) rfl)) (pa_cons (pe_op op_mulW (pe_fldK (K := K) rfl (pv 0) rfl) (pe_fldK (K := K) rfl (pv 1) rfl)) pa_nil))))), ?_⟩
    walk_at "go"
    refine ⟨Bits.mulW b1 b3 (by decide), ?_⟩
    walk_at "go"
    refine ⟨Bits.mulW b2 b4 (by decide), ?_⟩
    walk_at "go"
    intro z dz nz ndz ne
    exact made_ok (Int.ne_of_gt (Int.mul_pos px.pos py.pos)) ((b2.mul b4).mono (by decide)) k z dz nz ndz
def spNeg (K : PySem.W.Frag) : Sp := fun vs H Q _ => ∃ (x : Addr) (n d : Int), vs = [.ref x] ∧ Rt K H x n d 3500 ∧ ∀ z H', Same H H' → RatAt K H' z (-n) d → Q (.ref z) H'
theorem ok_Ratio___neg__ (T : Top w K mg) : FnOk P w K mg base CX0 3 (He.ma K (He.ga K ("Ratio" : Str)) ("__neg__" : Str)) (fdOf K d_Ratio___neg__) ["self"] (spNeg K) := by
  obtain ⟨ds1, B1⟩ := T.b1_Ratio___init__
  refine (T.f_Ratio___neg__).ok sc_Ratio___neg__ (fun vs H Q E h => ?_) (fun cdv A outer s H vs Q E hr h => ?_)
  · obtain ⟨x, n, d, rfl, _⟩ := h
    rfl
  · obtain ⟨x, n, d, rfl, rx, k⟩ := h
    obtain ⟨⟨dx, hx⟩, low, b1, b2⟩ := rx
    refine ⟨_, PSs.nox (pss_one (ps_ret (pe_make (C := He.ga K ("Ratio" : Str)) T.mk_Ratio (ok_Ratio___init__ (K := K) T) (hr.mono (by decide)) rfl T.g_Ratio (B1.2) (B1.1) passL (pa_cons (pe_un un_neg (pe_fldK (K := K) rfl (pv 0) rfl)) (pa_cons (pe_fldK (K := K) rfl (pv 0) rfl) pa_nil))))), ?_⟩
    walk_at "go"
    intro z dz nz ndz ne
    refine made_ok (Int.ne_of_gt low.pos) (b2.mono (by decide)) (fun z H' e r => k z H' e ?_) z dz nz ndz
    rw [pn_low low.neg, pd_low low.neg] at r
    exact r
end
section
variable {P : Program} {w : World} {K : PySem.W.Frag} {mg : Str → Option Value} {base : Heap}
def spQuot (K : PySem.W.Frag) : Sp := fun vs H Q E => ∃ (x y : Addr) (n d a b : Int), vs = [.ref x, .ref y] ∧ Rt K H x n d 3500 ∧ Rt K H y a b 3500 ∧ (a = 0 → ∀ H', Same H H' → E (.ref (He.ga K "ByZero")) none H') ∧
  (a ≠ 0 → ∀ z H', Same H H' → RatAt K H' z (pn (n * b) (d * a)) (pd (n * b) (d * a)) → Q (.ref z) H')
theorem ok_quotient (T : Top w K mg) : FnOk P w K mg base (L2.CX P w) 3 (He.ga K ("quotient" : Str)) (fdOf K d_quotient) ["first", "second"] (spQuot K) := by
  obtain ⟨ds1, B1⟩ := T.b1_Ratio___init__
  refine (T.f_quotient).ok sc_quotient (fun vs H Q E h => ?_) (fun cdv A outer s H vs Q E hr h => ?_)
  · obtain ⟨x, y, n, d, a, b, rfl, _⟩ := h
    rfl
  · obtain ⟨x, y, n, d, a, b, rfl, rx, ry, k0, k1⟩ := h
    obtain ⟨⟨dx, hx⟩, px, b1, b2⟩ := rx
    obtain ⟨⟨dy, hy⟩, py, b3, b4⟩ := ry
    refine ⟨_, (pss_one (ps_ret (pe_make (C := He.ga K ("Ratio" : Str)) T.mk_Ratio (ok_Ratio___init__ (K := K) T) (hr.mono (by decide)) rfl T.g_Ratio (B1.2) (B1.1) (passX (takes_of rfl rfl rfl rfl)) (pa_cons (pe_op op_mulW (pe_fldK (K := K) rfl (pv 0) rfl) (pe_fldK (K := K) rfl (pv 1) rfl)) (pa_cons (pe_op op_mulW (pe_fldK (K := K) rfl (pv 0) rfl) (pe_fldK (K := K) rfl (pv 1) rfl)) pa_nil))))), ?_⟩
    walk_at "go"
    refine ⟨Bits.mulW b1 b4 (by decide), ?_⟩
    walk_at "go"
    refine ⟨Bits.mulW b2 b3 (by decide), ?_⟩
    walk_at "go"
    intro z dz nz ndz ne
    by_cases ha : a = 0
    · exact ⟨z, dz, _, _, rfl, upd_same, (b2.mul b3).mono (by decide), fun _ => k0 ha _ (same_mk nz ndz), fun h => absurd (by rw [ha, Int.mul_zero]) h⟩
    · exact made_ok (Int.mul_ne_zero (Int.ne_of_gt px.pos) ha) ((b2.mul b3).mono (by decide)) (k1 ha) z dz nz ndz
end
section
variable {P : Program} {w : World} {K : PySem.W.Frag} {mg : Str → Option Value} {base : Heap}
def spDrawn : Sp := fun vs H Q _ => ∃ s : Addr, vs = [.ref s] ∧ Strm H s ∧ ∀ p n d H', Same H H' → H' p = some (.tup [.int n, .int d]) → Low n d → Bits 700 n → Bits 700 d → Q (.ref p) H'
theorem ok__law_drawn_pair (T : Top w K mg) : FnOk P w K mg base CX0 4 (He.ga K ("_law_drawn_pair" : Str)) (fdOf K d__law_drawn_pair) ["stream"] spDrawn := by
  refine (T.f__law_drawn_pair).ok sc__law_drawn_pair (fun vs H Q E h => ?_) (fun cdv A outer s H vs Q E hr h => ?_)
  · obtain ⟨s, rfl, _⟩ := h
    rfl
  · obtain ⟨s0, rfl, hS, k⟩ := h
    refine ⟨_, PSs.nox (pss_cons (ps_set (i := 1) sc__law_drawn_pair.nd rfl (Or.inl rfl) (pe_call (ok__law_whole (K := K) T) (hr.mono (by decide)) rfl T.g__law_whole T.f__law_whole.kp T.b__law_whole .nil pass0 (pa_cons (pv 0) pa_nil)))
    (C8.pss_cut (ps_if (pt_cmpR op_eq (pv 1) pe_int (nomark _))
    (pss_one (ps_set (i := 1) sc__law_drawn_pair.nd rfl (Or.inl rfl) pe_int))
    pss_nil)
    (pss_one (ps_ret (pe_call (ok__law_pair (K := K) T) (hr.mono (by decide)) rfl T.g__law_pair T.f__law_pair.kp T.b__law_pair .nil pass0 (pa_cons (pe_call (ok__law_whole (K := K) T) (hr.mono (by decide)) rfl T.g__law_whole T.f__law_whole.kp T.b__law_whole .nil pass0 (pa_cons (pv 0) pa_nil)) (pa_cons (pv 1) pa_nil))))))), ?_⟩
    walk_at "go"
    intro d hd
    walk_at "go"
    refine r_cut (fun σ H' => H' = H ∧ ∃ d : Int, σ = [some (.ref s0), some (.int d)] ∧ Bits 700 d ∧ d ≠ 0) ?_ ?_
    · walk_at "go"
      refine ite_d (fun c => ?_) (fun c => ?_)
      · walk_at "go"
        exact ⟨rfl, 7, rfl, Bits.small (by decide) (by decide), by decide⟩
      · walk_at "go"
        exact ⟨rfl, d, rfl, hd, vint_ne c⟩
    · rintro σ H2 ⟨rfl, d, rfl, hd, h0⟩
      have b8 : Bits 8000 d := hd.mono (by decide)
      walk_at "go"
      intro n hn
      walk_at "go"
      intro p H3 s3 hp
      exact k p _ _ H3 s3 hp (low_of h0) (Bits.of_le (pn_le h0) hn) (Bits.of_le (pd_le h0) hd)
end
local macro_rules | `(tactic| walk_at "go2") => `(tactic| (refine ⟨_, _, _, _, _, rfl, (by assumption), Top.cls_Ratio (by assumption), Top.na_Ratio_top (by assumption), r2_top _ _, ?_⟩))
local macro_rules | `(tactic| walk_at "go2") => `(tactic| (refine ⟨_, _, _, _, _, rfl, (by assumption), Top.cls_Ratio (by assumption), Top.na_Ratio_bottom (by assumption), r2_bot _ _, ?_⟩))
section
variable {P : Program} {w : World} {K : PySem.W.Frag} {mg : Str → Option Value} {base : Heap}
/-- the power for exponents from 0 on -/
def spPowP (K : PySem.W.Frag) : Sp := fun vs H Q _ => ∃ (x : Addr) (u v : Int) (m B : Nat), vs = [.ref x, .int (m : Int)] ∧ RatAt K H x u v ∧ Low u v ∧ Bits B u ∧ Bits B v ∧ m ≤ 60 ∧ B * m ≤ 3400 ∧
  ∀ z H', Same H H' → RatAt K H' z (u ^ m) (v ^ m) → Q (.ref z) H'
def spNo : Sp := fun _ _ _ _ => False
theorem ok_none {CX : CXT} {f : Addr} {fd : FuncData} {ps : List Str} : FnOk P w K mg base CX 0 f fd ps spNo := ⟨fun _ _ _ _ h => h.elim, fun _ _ _ _ _ _ _ _ _ _ _ _ _ h => h.elim⟩
theorem ok_power0 (_ : Top w K mg) : FnOk P w K mg base (L2.CX P w) 0 (He.ga K ("power" : Str)) (fdOf K d_power) ["base", "exponent"] spNo := ok_none
theorem ok_powerP (T : Top w K mg) : FnOk P w K mg base (L2.CX P w) 4 (He.ga K ("power" : Str)) (fdOf K d_power) ["base", "exponent"] (spPowP K) := by
  obtain ⟨ds0, B0⟩ := T.b0_Ratio___init__
  refine (T.f_power).ok sc_power (fun vs H Q E h => ?_) (fun cdv A outer s H vs Q E hr h => ?_)
  · obtain ⟨x, u, v, m, B, rfl, _⟩ := h
    rfl
  · obtain ⟨x, u, v, m, B, rfl, hx, low, bu, bv, hm, hB, k⟩ := h
    refine ⟨_, (pss_cons (ps_if (pt_cmpR op_lt (pv 1) pe_int (nomark _))
    (pss_one (ps_ret (pe_call (ok_power0 (K := K) T) (hr.mono (by decide)) rfl T.g_power T.f_power.kp T.b_power .nil (passX (takes_of rfl rfl rfl rfl)) (pa_cons (pe_call (ok_quotient (K := K) T) (hr.mono (by decide)) rfl T.g_quotient T.f_quotient.kp T.b_quotient .nil (passX (takes_of rfl rfl rfl rfl)) (pa_cons (pe_make (C := He.ga K ("Ratio" : Str)) T.mk_Ratio (ok_Ratio___init__ (K := K) T) (hr.mono (by decide)) rfl T.g_Ratio (B0.2) (B0.1) (passX (takes_of rfl rfl rfl rfl)) (pa_cons pe_int pa_nil)) (pa_cons (pv 0) pa_nil))) (pa_cons (pe_un un_neg (pv 1)) pa_nil)))))
    pss_nil)
    (pss_cons (ps_set (i := 2) sc_power.nd rfl (Or.inl rfl) (pe_make (C := He.ga K ("Ratio" : Str)) T.mk_Ratio (ok_Ratio___init__ (K := K) T) (hr.mono (by decide)) rfl T.g_Ratio (B0.2) (B0.1) (passX (takes_of rfl rfl rfl rfl)) (pa_cons pe_int pa_nil)))
    (pss_cons (ps_for (passes_of rfl) rfl (pi_range1 rfl T.n_range (pa_cons (pv 1) pa_nil)) (pg_name (i := 3) sc_power.nd rfl (Or.inl rfl))
    (pss_one (ps_set (i := 2) sc_power.nd rfl (Or.inl rfl) (pe_op (op_bin T.x_first_Ratio T.m_Ratio___mul__ (ok_Ratio___mul__ (K := K) T) T.b_Ratio___mul__ (hr.mono (by decide)) passL0) (pv 2) (pv 0)))))
    (pss_one (ps_ret (pv 2)))))), ?_⟩
    walk_at "go"
    refine ite_d (fun c => absurd c (by omega)) (fun c => ?_)
    walk_at "go"
    intro y dy ny ndy _
    refine ⟨y, dy, 1, 1, rfl, upd_same, Bits.small (by decide) (by decide), fun h => absurd h (by decide), fun _ => ⟨rfl, ?_⟩⟩
    have e1 : Same H (upd (upd H dy (.own y)) y (.ins (He.ga K "Ratio") dy (rfl2 1 1))) := same_mk ny ndy
    have hy : RatAt K (upd (upd H dy (.own y)) y (.ins (He.ga K "Ratio") dy (rfl2 1 1))) y 1 1 := ⟨dy, upd_same⟩
    have l1 : Low 1 1 := ⟨by decide, by decide⟩
    rw [pn_low l1, pd_low l1, upd_upd]
    generalize upd (upd H dy (.own y)) y (.ins (He.ga K "Ratio") dy (rfl2 1 1)) = H1 at e1 hy ⊢
    walk_at "go"
    refine for_rng (fun i σ H' => Same H1 H' ∧ ∃ (r : Addr) (w : Option V), σ = [some (.ref x), some (.int (m : Int)), some (.ref r), w] ∧ RatAt K H' r (u ^ i) (v ^ i)) ⟨Same.refl _, y, none, rfl, by rw [Int.pow_zero, Int.pow_zero]; exact hy⟩ ?_ ?_
    · rintro i σ H2 hi ⟨e2, r, w, rfl, hr'⟩
      have him : i < m := by omega
      have hx2 := hx.mono (e1.trans e2)
      have hle : B * i + B ≤ B * m := by rw [← Nat.mul_succ]; exact Nat.mul_le_mul_left B (by omega)
      obtain ⟨dr, hr2⟩ := id hr'
      obtain ⟨dx, hx3⟩ := id hx2
      walk_at "go"
      refine ⟨r, x, dr, dx, _, _, rfl, rfl, hr2, hx3, r, x, _, _, _, _, rfl, ⟨hr', low.pow i, (bits_pow bu i).mono (by omega), (bits_pow bv i).mono (by omega)⟩, ⟨hx2, low, bu.mono (by omega), bv.mono (by omega)⟩, fun z H3 e3 hz => ?_⟩
      dsimp only at hz
      rw [← Int.pow_succ, ← Int.pow_succ, pn_low (low.pow (i + 1)), pd_low (low.pow (i + 1))] at hz
      exact ⟨e2.trans e3, z, _, rfl, hz⟩
    · rintro σ H2 ⟨e2, r, w, rfl, hr'⟩
      walk_at "go"
      exact k r H2 (e1.trans e2) (by simpa using hr')
/-- .. and for those below 0 -/
def spPower (K : PySem.W.Frag) : Sp := fun vs H Q E => ∃ (x : Addr) (u v e : Int) (B : Nat), vs = [.ref x, .int e] ∧ RatAt K H x u v ∧ Low u v ∧ Bits B u ∧ Bits B v ∧ e.natAbs ≤ 60 ∧ B * e.natAbs ≤ 3400 ∧
  (e < 0 ∧ u = 0 → ∀ H', Same H H' → E (.ref (He.ga K "ByZero")) none H') ∧
  (0 ≤ e → ∀ z H', Same H H' → RatAt K H' z (u ^ e.natAbs) (v ^ e.natAbs) → Q (.ref z) H') ∧
  (e < 0 → u ≠ 0 → ∀ z H', Same H H' → RatAt K H' z (pn v u ^ e.natAbs) (pd v u ^ e.natAbs) → Q (.ref z) H')
theorem fn_or {CX : CXT} {k : Nat} {f : Addr} {fd : FuncData} {ps : List Str} {sp sp' : Sp} (F : FnOk P w K mg base CX k f fd ps sp) (G : FnOk P w K mg base CX k f fd ps sp') : FnOk P w K mg base CX k f fd ps (fun vs H Q E => sp vs H Q E ∨ sp' vs H Q E) :=
  ⟨fun vs H Q E h => h.elim (F.len vs H Q E) (G.len vs H Q E), fun A outer s H args us vs Q E hr he hb hv h => h.elim (F.run A outer s H args us vs Q E hr he hb hv) (G.run A outer s H args us vs Q E hr he hb hv)⟩
def spPowN (K : PySem.W.Frag) : Sp := fun vs H Q E => ∃ (x : Addr) (u v : Int) (m B : Nat), vs = [.ref x, .int (-(m : Int))] ∧ RatAt K H x u v ∧ Low u v ∧ Bits B u ∧ Bits B v ∧ 0 < m ∧ m ≤ 60 ∧ B * m ≤ 3400 ∧
  (u = 0 → ∀ H', Same H H' → E (.ref (He.ga K "ByZero")) none H') ∧ (u ≠ 0 → ∀ z H', Same H H' → RatAt K H' z (pn v u ^ m) (pd v u ^ m) → Q (.ref z) H')
theorem ok_powerN (T : Top w K mg) : FnOk P w K mg base (L2.CX P w) 5 (He.ga K ("power" : Str)) (fdOf K d_power) ["base", "exponent"] (spPowN K) := by
  obtain ⟨ds0, B0⟩ := T.b0_Ratio___init__
  refine (T.f_power).ok sc_power (fun vs H Q E h => ?_) (fun cdv A outer s H vs Q E hr h => ?_)
  · obtain ⟨x, u, v, m, B, rfl, _⟩ := h
    rfl
  · obtain ⟨x, u, v, m, B, rfl, hx, low, bu, bv, h0, hm, hB, k0, k1⟩ := h
    refine ⟨_, (pss_cons (ps_if (pt_cmpR op_lt (pv 1) pe_int (nomark _))
    (pss_one (ps_ret (pe_call (ok_powerP (K := K) T) (hr.mono (by decide)) rfl T.g_power T.f_power.kp T.b_power .nil (passX (takes_of rfl rfl rfl rfl)) (pa_cons (pe_call (ok_quotient (K := K) T) (hr.mono (by decide)) rfl T.g_quotient T.f_quotient.kp T.b_quotient .nil (passX (takes_of rfl rfl rfl rfl)) (pa_cons (pe_make (C := He.ga K ("Ratio" : Str)) T.mk_Ratio (ok_Ratio___init__ (K := K) T) (hr.mono (by decide)) rfl T.g_Ratio (B0.2) (B0.1) (passX (takes_of rfl rfl rfl rfl)) (pa_cons pe_int pa_nil)) (pa_cons (pv 0) pa_nil))) (pa_cons (pe_un un_neg (pv 1)) pa_nil)))))
    pss_nil)
    (pss_cons (ps_set (i := 2) sc_power.nd rfl (Or.inl rfl) (pe_make (C := He.ga K ("Ratio" : Str)) T.mk_Ratio (ok_Ratio___init__ (K := K) T) (hr.mono (by decide)) rfl T.g_Ratio (B0.2) (B0.1) (passX (takes_of rfl rfl rfl rfl)) (pa_cons pe_int pa_nil)))
    (pss_cons (ps_for (passes_of rfl) rfl (pi_range1 rfl T.n_range (pa_cons (pv 1) pa_nil)) (pg_name (i := 3) sc_power.nd rfl (Or.inl rfl))
    (pss_one (ps_set (i := 2) sc_power.nd rfl (Or.inl rfl) (pe_op (op_bin T.x_first_Ratio T.m_Ratio___mul__ (ok_Ratio___mul__ (K := K) T) T.b_Ratio___mul__ (hr.mono (by decide)) passL0) (pv 2) (pv 0)))))
    (pss_one (ps_ret (pv 2)))))), ?_⟩
    walk_at "go"
    refine ite_d (fun c => ?_) (fun c => absurd (by omega) c)
    walk_at "go"
    intro y dy ny ndy _
    refine ⟨y, dy, 1, 1, rfl, upd_same, Bits.small (by decide) (by decide), fun h => absurd h (by decide), fun _ => ⟨rfl, ?_⟩⟩
    have e1 : Same H (upd (upd H dy (.own y)) y (.ins (He.ga K "Ratio") dy (rfl2 1 1))) := same_mk ny ndy
    have hy : RatAt K (upd (upd H dy (.own y)) y (.ins (He.ga K "Ratio") dy (rfl2 1 1))) y 1 1 := ⟨dy, upd_same⟩
    have l1 : Low 1 1 := ⟨by decide, by decide⟩
    rw [pn_low l1, pd_low l1, upd_upd]
    generalize upd (upd H dy (.own y)) y (.ins (He.ga K "Ratio") dy (rfl2 1 1)) = H1 at e1 hy ⊢
    have hB3 : B ≤ 3400 := Nat.le_trans (Nat.le_mul_of_pos_right B h0) hB
    walk_at "go"
    refine ⟨y, x, 1, 1, u, v, rfl, ⟨hy, l1, Bits.small (by decide) (by decide), Bits.small (by decide) (by decide)⟩, ⟨hx.mono e1, low, bu.mono (by omega), bv.mono (by omega)⟩, fun hu H2 e2 => k0 hu H2 (e1.trans e2), fun hu z H2 e2 hz => ?_⟩
    rw [Int.one_mul, Int.one_mul] at hz
    walk_at "go"
    refine ⟨z, _, _, m, B, by rw [Int.neg_neg] <;> rfl, hz, low_of hu, Bits.of_le (pn_le hu) bv, Bits.of_le (pd_le hu) bu, hm, by omega, fun q H3 e3 hq => k1 hu q H3 (e1.trans (e2.trans e3)) hq⟩
theorem ok_power (T : Top w K mg) : FnOk P w K mg base (L2.CX P w) 5 (He.ga K ("power" : Str)) (fdOf K d_power) ["base", "exponent"] (spPower K) := by
  refine (fn_or ((ok_powerP T).mono (by decide)) (ok_powerN T)).imp fun vs H Q E h => ?_
  obtain ⟨x, u, v, e, B, rfl, hx, low, bu, bv, he, hB, k0, k1, k2⟩ := h
  by_cases c : 0 ≤ e
  · refine .inl ⟨x, u, v, e.natAbs, B, by rw [show ((e.natAbs : Nat) : Int) = e from by omega], hx, low, bu, bv, he, by omega, k1 c⟩
  · refine .inr ⟨x, u, v, e.natAbs, B, by rw [show -((e.natAbs : Nat) : Int) = e from by omega], hx, low, bu, bv, by omega, he, hB, fun hu => k0 ⟨by omega, hu⟩, k2 (by omega)⟩
end
section
variable {P : Program} {w : World} {K : PySem.W.Frag} {mg : Str → Option Value} {base : Heap}
def spSigned : Sp := fun vs H Q _ => ∃ n d : Int, vs = [.int n, .int d] ∧ ∀ p H', Same H H' → H' p = some (.tup [.int (sn n d), .int (sd n d)]) → Q (.ref p) H'
theorem ok__law_signed (T : Top w K mg) : FnOk P w K mg base CX0 1 (He.ga K ("_law_signed" : Str)) (fdOf K d__law_signed) ["n", "d"] spSigned := by
  refine (T.f__law_signed).ok sc__law_signed (fun vs H Q E h => ?_) (fun cdv A outer s H vs Q E hr h => ?_)
  · obtain ⟨n, d, rfl, _⟩ := h
    rfl
  · obtain ⟨n, d, rfl, k⟩ := h
    refine ⟨_, PSs.nox (pss_cons (ps_if (pt_cmpR op_lt (pv 1) pe_int (nomark _))
    (pss_one (ps_ret (pe_tup (pa_cons (pe_op op_sub pe_int (pv 0)) (pa_cons (pe_op op_sub pe_int (pv 1)) pa_nil)))))
    pss_nil)
    (pss_one (ps_ret (pe_tup (pa_cons (pv 0) (pa_cons (pv 1) pa_nil)))))), ?_⟩
    walk_at "go"
    refine ite_d (fun c => ?_) (fun c => ?_)
    · walk_at "go"
      refine ⟨by show 2 ≤ sizeLine; decide, fun p hp => k p _ (same_new hp) ?_⟩
      rw [upd_same, sn, sd, if_pos c, if_pos c] <;> rfl
    · walk_at "go"
      refine ⟨by show 2 ≤ sizeLine; decide, fun p hp => k p _ (same_new hp) ?_⟩
      rw [upd_same, sn, sd, if_neg c, if_neg c] <;> rfl
theorem both_true (a b : Int) : (decide (a = a) && decide (b = b)) = true := by simp
local macro_rules | `(tactic| walk_at "go2") => `(tactic| (refine r_ixT (SqT.of (by assumption)) rfl ?_))
def spLaw (K : PySem.W.Frag) : Sp := fun vs H Q _ => ∃ (a : Addr) (ns : List Int), vs = [.ref a] ∧ SqL K H a (ns.map V.int) ∧ ns.length ≤ 63 ∧ ∀ H', Q (.bl true) H'
theorem ok_law (T : Top w K mg) : FnOk P w K mg base CX0 6 (He.ga K ("law" : Str)) (fdOf K d_law) ["script"] (spLaw K) := by
  obtain ⟨ds1, B1⟩ := T.b1_Ratio___init__
  refine (T.f_law).ok sc_law (fun vs H Q E h => ?_) (fun cdv A outer s H vs Q E hr h => ?_)
  · obtain ⟨a, ns, rfl, _⟩ := h
    rfl
  · obtain ⟨sa, ns, rfl, hS, h63, k⟩ := h
    refine ⟨_, PSs.nox (pss_cons (ps_set (i := 1) sc_law.nd rfl (Or.inl rfl) (pe_call (ok__law_stream (K := K) T) (hr.mono (by decide)) rfl T.g__law_stream T.f__law_stream.kp T.b__law_stream .nil pass0 (pa_cons (pv 0) pa_nil)))
    (pss_cons (ps_set (i := 2) sc_law.nd rfl (Or.inl rfl) (pe_call (ok__law_pair (K := K) T) (hr.mono (by decide)) rfl T.g__law_pair T.f__law_pair.kp T.b__law_pair .nil pass0 (pa_cons (pe_op op_sub (pe_call (ok__law_draw (K := K) T) (hr.mono (by decide)) rfl T.g__law_draw T.f__law_draw.kp T.b__law_draw .nil pass0 (pa_cons (pv 1) (pa_cons pe_int pa_nil))) pe_int) (pa_cons (pe_op op_add pe_int (pe_call (ok__law_draw (K := K) T) (hr.mono (by decide)) rfl T.g__law_draw T.f__law_draw.kp T.b__law_draw .nil pass0 (pa_cons (pv 1) (pa_cons pe_int pa_nil)))) pa_nil))))
    (C8.pss_cut (ps_if (pt_cmpR op_eq (pe_call (ok__law_draw (K := K) T) (hr.mono (by decide)) rfl T.g__law_draw T.f__law_draw.kp T.b__law_draw .nil pass0 (pa_cons (pv 1) (pa_cons pe_int pa_nil))) pe_int (nomark _))
    (pss_one (ps_set (i := 2) sc_law.nd rfl (Or.inl rfl) (pe_call (ok__law_drawn_pair (K := K) T) (hr.mono (by decide)) rfl T.g__law_drawn_pair T.f__law_drawn_pair.kp T.b__law_drawn_pair .nil pass0 (pa_cons (pv 1) pa_nil))))
    pss_nil)
    (pss_cons (ps_set (i := 3) sc_law.nd rfl (Or.inl rfl) (pe_op op_sub (pe_call (ok__law_draw (K := K) T) (hr.mono (by decide)) rfl T.g__law_draw T.f__law_draw.kp T.b__law_draw .nil pass0 (pa_cons (pv 1) (pa_cons pe_int pa_nil))) pe_int))
    (C8.pss_cut (ps_if (pt_cmpR op_eq (pe_call (ok__law_draw (K := K) T) (hr.mono (by decide)) rfl T.g__law_draw T.f__law_draw.kp T.b__law_draw .nil pass0 (pa_cons (pv 1) (pa_cons pe_int pa_nil))) pe_int (nomark _))
    (pss_one (ps_set (i := 3) sc_law.nd rfl (Or.inl rfl) (pe_op op_sub (pe_call (ok__law_draw (K := K) T) (hr.mono (by decide)) rfl T.g__law_draw T.f__law_draw.kp T.b__law_draw .nil pass0 (pa_cons (pv 1) (pa_cons pe_int pa_nil))) pe_int)))
    pss_nil)
    (C8.pss_cut (ps_if (PW.pt (pw_or (pt_cmpR op_gt (pe_callB call_abs (by rfl) T.n_abs (by decide +kernel) (pa_cons (pe_ix (ix_tupK (K := K) rfl) (pv 2) pe_int (fun _ _ => rfl)) pa_nil)) (pe_op op_pow pe_int pe_int) (nomark _)) (pw_or1 (pt_cmpR op_gt (pe_ix (ix_tupK (K := K) rfl) (pv 2) pe_int (fun _ _ => rfl)) (pe_op op_pow pe_int pe_int) (nomark _)))))
    (pss_one (ps_set (i := 3) sc_law.nd rfl (Or.inl rfl) (pe_op op_sub (pe_call (ok__law_draw (K := K) T) (hr.mono (by decide)) rfl T.g__law_draw T.f__law_draw.kp T.b__law_draw .nil pass0 (pa_cons (pv 1) (pa_cons pe_int pa_nil))) pe_int)))
    pss_nil)
    (pss_cons (ps_set (i := 4) sc_law.nd rfl (Or.inl rfl) pe_int)
    (pss_cons (ps_set (i := 5) sc_law.nd rfl (Or.inl rfl) pe_int)
    (pss_cons (ps_for PassesOwn.never rfl (pi_range1 rfl T.n_range (pa_cons (pe_callB call_abs (by rfl) T.n_abs (by decide +kernel) (pa_cons (pv 3) pa_nil)) pa_nil)) (pg_name (i := 6) sc_law.nd rfl (Or.inl rfl))
    (pss_cons (ps_set (i := 4) sc_law.nd rfl (Or.inl rfl) (pe_op op_mulW (pv 4) (pe_ix (ix_tupK (K := K) rfl) (pv 2) pe_int (fun _ _ => rfl))))
    (pss_one (ps_set (i := 5) sc_law.nd rfl (Or.inl rfl) (pe_op op_mulW (pv 5) (pe_ix (ix_tupK (K := K) rfl) (pv 2) pe_int (fun _ _ => rfl)))))))
    (C8.pss_cut (ps_if (pt_cmpR op_lt (pv 3) pe_int (nomark _))
    (pss_one (ps_par (i := 4) (j := 5) (by rfl) sc_law.nd rfl rfl (by decide) rfl rfl (pa_cons (pv 5) (pa_cons (pv 4) pa_nil)) (by rfl)))
    pss_nil)
    (pss_cons (ps_try_only (Wout := fun _ _ _ _ => False) rfl rfl ⟨rfl, by decide, .inl T.g_ByZero⟩ takes0
    (fun W pn xe tk _ => (pss_one (ps_set (i := 7) sc_law.nd rfl (Or.inl rfl) (pe_callS (ok_power (K := K) T) (hr.mono (by decide)) rfl T.g_power T.f_power.kp T.b_power (fun σ => passAt tk σ) (pa_cons (pe_makeS (C := He.ga K ("Ratio" : Str)) T.mk_Ratio (ok_Ratio___init__ (K := K) T) (hr.mono (by decide)) rfl T.g_Ratio (B1.2) (B1.1) (fun σ => passAt tk σ) (pa_cons (pe_ix (ix_tupK (K := K) rfl) (pv 2) pe_int (fun _ _ => rfl)) (pa_cons (pe_ix (ix_tupK (K := K) rfl) (pv 2) pe_int (fun _ _ => rfl)) pa_nil))) (pa_cons (pv 3) pa_nil))))))
    (fun a oe cls d pn _ _ => (pss_given (P := cls = .ref (He.ga K ("ByZero" : Str)) ∧ d = none) fun q => by obtain ⟨q1, q2⟩ := q; subst q1 q2; exact (pss_one (ps_ret (pe_cmpR op_eq (pv 5) pe_int (nomark _)))))))
    (pss_cons (ps_if (pt_cmpR op_eq (pv 5) pe_int (nomark _))
    (pss_one (ps_ret pe_bl))
    pss_nil)
    (pss_one (ps_ret (pe_call (ok__law_is (K := K) T) (hr.mono (by decide)) rfl T.g__law_is T.f__law_is.kp T.b__law_is .nil pass0 (pa_cons (pv 7) (pa_cons (pe_call (ok__law_signed (K := K) T) (hr.mono (by decide)) rfl T.g__law_signed T.f__law_signed.kp T.b__law_signed .nil pass0 (pa_cons (pv 4) (pa_cons (pv 5) pa_nil))) pa_nil))))))))))))))))), ?_⟩
    walk_at "go"
    refine ⟨sa, ns, rfl, hS, h63, fun s0 H1 e1 hS1 => ?_⟩
    walk_at "go"
    intro v h0 h1
    walk_at "go"
    intro v2 h2 h3
    walk_at "go"
    have b8 : Bits 8000 (1 + v2) := Bits.small (by omega) (by decide)
    walk_at "go"
    intro p0 H2 e2 hp0
    have lo0 : Low (pn (v - 12) (1 + v2)) (pd (v - 12) (1 + v2)) := low_of (by omega)
    have bn0 : Bits 700 (pn (v - 12) (1 + v2)) := Bits.of_le (pn_le (by omega)) (Bits.small (by omega) (by decide))
    have bd0 : Bits 700 (pd (v - 12) (1 + v2)) := Bits.of_le (pd_le (by omega)) (Bits.small (by omega) (by decide))
    have hS2 := hS1.mono e2
    walk_at "go"
    refine r_cut (fun σ H' => Strm H' s0 ∧ ∃ (p : Addr) (u v : Int), σ = [some (.ref sa), some (.ref s0), some (.ref p), none, none, none, none, none] ∧ H' p = some (.tup [.int u, .int v]) ∧ Low u v ∧ Bits 700 u ∧ Bits 700 v) ?_ ?_
    · walk_at "go"
      intro v h0 h1
      walk_at "go"
      refine ite_d (fun c => ?_) (fun c => ?_)
      · walk_at "go"
        intro p n d H3 e3 hp lo bn bd
        exact ⟨hS2.mono e3, p, n, d, rfl, hp, lo, bn, bd⟩
      · walk_at "go"
        exact ⟨p0, _, _, rfl, hp0, lo0, bn0, bd0⟩
    · rintro σ H3 ⟨hS3, p, u, v, rfl, hp, low, bu, bv⟩
      have bv7 := bv
      walk_at "go"
      intro x h4 h5
      walk_at "go"
      refine r_cut (fun σ H' => H' = H3 ∧ ∃ e : Int, σ = [some (.ref sa), some (.ref s0), some (.ref p), some (.int e), none, none, none, none] ∧ e.natAbs ≤ 60) ?_ ?_
      · walk_at "go"
        intro y h6 h7
        walk_at "go"
        refine ite_d (fun c => ?_) (fun c => ?_)
        · walk_at "go"
          intro z h8 h9
          walk_at "go"
          exact ⟨rfl, z - 3, rfl, by omega⟩
        · walk_at "go"
          exact ⟨rfl, x - 60, rfl, by omega⟩
      · rintro σ H4 ⟨rfl, e, rfl, he⟩
        refine r_cut (fun σ H' => H' = H4 ∧ ∃ (e : Int) (B : Nat), σ = [some (.ref sa), some (.ref s0), some (.ref p), some (.int e), none, none, none, none] ∧ e.natAbs ≤ 60 ∧ Bits B u ∧ Bits B v ∧ B * e.natAbs ≤ 3400) ?_ ?_
        · have e6 : (10 : Int) ^ Int.toNat 6 = 1000000 := by decide
          walk_at "go"
          refine ite_d (fun c => ?_) (fun c => ?_)
          · walk_at "go"
            intro z h8 h9
            walk_at "go"
            exact ⟨rfl, z - 4, 700, rfl, by omega, bu, bv, by omega⟩
          · rw [e6] at c
            walk_at "go"
            refine ite_d (fun c2 => ?_) (fun c2 => ?_)
            · walk_at "go"
              intro z h8 h9
              walk_at "go"
              exact ⟨rfl, z - 4, 700, rfl, by omega, bu, bv, by omega⟩
            · rw [e6] at c2
              walk_at "go"
              have hv := low.pos
              have hu : u.natAbs < 1048576 := by
                split at c <;> omega
              exact ⟨rfl, e, 20, rfl, he, hu, (show v.natAbs < 1048576 from by omega), by omega⟩
        · rintro σ H5 ⟨rfl, e, B, rfl, he, bu, bv, hB⟩
          have bv8 : Bits 8000 v := bv7.mono (by decide)
          have em : (if e < 0 then -e else e).toNat = e.natAbs := by split <;> omega
          have le_of : ∀ i, i < e.natAbs → B * i + B ≤ 3400 := fun i hi => Nat.le_trans (by rw [← Nat.mul_succ]; exact Nat.mul_le_mul_left B (by omega)) hB
          walk_at "go"
          rw [em]
          refine for_rng (fun i σ H' => H' = H5 ∧ ∃ w : Option V, σ = [some (.ref sa), some (.ref s0), some (.ref p), some (.int e), some (.int (u ^ i)), some (.int (v ^ i)), w, none]) ⟨rfl, none, by rw [Int.pow_zero, Int.pow_zero] <;> rfl⟩ ?_ ?_
          · rintro i σ H6 hi ⟨rfl, w, rfl⟩
            have hl := le_of i hi
            walk_at "go"
            refine ⟨Bits.mulW (bits_pow bu i) bu (by omega), ?_⟩
            walk_at "go"
            refine ⟨Bits.mulW (bits_pow bv i) bv (by omega), ?_⟩
            walk_at "go"
            refine ⟨rfl, some (.int (0 + (i : Int))), ?_⟩
            rw [Int.pow_succ, Int.pow_succ] <;> rfl
          · rintro σ H6 ⟨rfl, w, rfl⟩
            refine r_cut (fun σ H' => H' = H6 ∧ ∃ (n d : Int) (w : Option V), σ = [some (.ref sa), some (.ref s0), some (.ref p), some (.int e), some (.int n), some (.int d), w, none] ∧ (0 ≤ e → n = u ^ e.natAbs ∧ d = v ^ e.natAbs) ∧ (e < 0 → n = v ^ e.natAbs ∧ d = u ^ e.natAbs)) ?_ ?_
            · walk_at "go"
              refine ite_d (fun c => ?_) (fun c => ?_)
              · walk_at "go"
                exact ⟨rfl, _, _, w, rfl, fun h => absurd h (by omega), fun _ => ⟨rfl, rfl⟩⟩
              · walk_at "go"
                exact ⟨rfl, _, _, w, rfl, fun _ => ⟨rfl, rfl⟩, fun h => absurd h c⟩
            · rintro σ H7 ⟨rfl, n, d, w, rfl, q0, q1⟩
              walk_at "go"
              intro y dy ny ndy _
              refine ⟨y, dy, u, v, rfl, upd_same, bv8, fun h => absurd h (Int.ne_of_gt low.pos), fun _ => ⟨rfl, ?_⟩⟩
              rw [pn_low low, pd_low low, upd_upd]
              have e4 : Same H7 (upd (upd H7 dy (.own y)) y (.ins (He.ga K "Ratio") dy (rfl2 u v))) := same_mk ny ndy
              have hy : RatAt K (upd (upd H7 dy (.own y)) y (.ins (He.ga K "Ratio") dy (rfl2 u v))) y u v := ⟨dy, upd_same⟩
              generalize upd (upd H7 dy (.own y)) y (.ins (He.ga K "Ratio") dy (rfl2 u v)) = H8 at e4 hy ⊢
              walk_at "go"
              refine ⟨y, u, v, e, B, rfl, hy, low, bu, bv, he, hB, fun hz H9 e9 => ?_, fun he0 z H9 e9 hz => ?_, fun he0 hu z H9 e9 hz => ?_⟩
              · refine ⟨true, T.exm_ByZero_ByZero, fun _ a ha => ⟨⟨rfl, rfl⟩, ?_⟩, fun q => Bool.noConfusion q⟩
                walk_at "go"
                have ed : d = 0 := by
                  rw [(q1 hz.1).2, hz.2]
                  exact Int.zero_pow (by omega)
                rw [ed, decide_eq_true rfl]
                exact k _
              · obtain ⟨en, ed⟩ := q0 he0
                have dp : 0 < d := by rw [ed]; exact Int.pow_pos low.pos
                obtain ⟨e1, e2⟩ := signed_pos (n := n) dp
                walk_at "go"
                refine ite_d (fun c => absurd (vint_inj c) (by omega)) (fun c => ?_)
                walk_at "go"
                intro q H10 e10 hq
                refine ⟨z, q, _, _, _, _, rfl, hz.mono e10, SqT.of hq, ?_⟩
                rw [e1, e2, en, ed, both_true]
                exact k _
              · obtain ⟨en, ed⟩ := q1 he0
                have dp : d ≠ 0 := by rw [ed]; exact Int.pow_ne_zero hu
                obtain ⟨e1, e2⟩ := signed_pow low hu e.natAbs
                walk_at "go"
                refine ite_d (fun c => absurd (vint_inj c) dp) (fun c => ?_)
                walk_at "go"
                intro q H10 e10 hq
                refine ⟨z, q, _, _, _, _, rfl, hz.mono e10, SqT.of hq, ?_⟩
                rw [en, ed, e1, e2, both_true]
                exact k _
end
theorem facts {P : Program} {w : World} {K : PySem.W.Frag} {h : Heap} {mg : Str → Option Value} {f : Addr} (X : K.In h) (G : h.Ns mainGlobals mg) (hfa : mg ("law" : Str) = some (.ref f)) (c : He.SaysX faL fnL [] [] exB w h K) :
    ∃ fd : FuncData, (∀ (s : Shared) (v : Value), BindsTo s fd ⟨[v], []⟩ [("script", v)]) ∧ ∀ base : Heap, K.In base → base.Ns mainGlobals mg → FnOk P w K mg base CX0 6 f fd ["script"] (spLaw K) := by
  have T : Top w K mg := ⟨h, X, G, c⟩
  have e := hfa.symm.trans T.g_law
  cases e
  have b := FunD.bindsA (ps := ["script"]) (show FunD K "law" "law" (defArgs s_law) (defBody s_law) (defScope s_law) [] (d_law.kws K) (He.ga K "law") (fdOf K d_law) from T.f_law) fun _ _ _ _ _ _ us hl => match us, hl with | [_], _ => rfl
  exact ⟨fdOf K d_law, fun s v => b s [v] rfl, fun base _ _ => ok_law T⟩
end Lk
open PySem PySem.W PySem.Calls PyProof.Rows
set_option maxRecDepth 100000 in
set_option maxHeartbeats 0 in
theorem PySem.Challenge.cw_linkwork_k05_powers_holds : PySem.Challenge.rw_linkwork_k05_powers.Holds := by
  w_on; o_law
  refine HeadRun.head_imp (r := OpenLaw.row PySem.Challenge.rw_linkwork_k05_powers) (q := Lk.qv) (H := Lk.hk) (ob := Lk.ob) (M := 4000) (loose := Lk.looseL) (d := HandSHeadRun.topDef (OpenLaw.row PySem.Challenge.rw_linkwork_k05_powers).prog 17) (kwd := []) Lk.ob_eq Lk.run (by kernel_rfl) (by kernel_rfl) (by kernel_rfl) (by rfl) (by first | assumption | decide +kernel) (by decide +kernel) ⟨rfl, rfl, rfl, rfl, rfl, by decide +kernel⟩ ?hw ?hc
  case hw => w_witness2
  case hc =>
    refine L2.walk_ofE (l := PySem.Challenge.rw_linkwork_k05_powers) (n := 63) (k := 6) (x := "script") (CX := L2.CX0) rfl (by decide) (by kernel_rfl) ⟨rfl, by decide, by decide⟩ ?F (fun _ _ _ _ z => z)
    intro w mg fa h Y G hmg0
    obtain ⟨K, KX, c⟩ := Y
    have hmg : mg ("law" : PySem.Str) = some (.ref fa) := by
      have e : (HandSHeadRun.topDef (OpenLaw.row PySem.Challenge.rw_linkwork_k05_powers).prog 17).name = ("law" : PySem.Str) := by kernel_rfl
      rw [← e]
      exact hmg0
    obtain ⟨fd, hb, hF⟩ := Lk.facts (P := (PySem.Challenge.rw_linkwork_k05_powers).prog) (w := w) KX G hmg c
    exact ⟨K, fd, Lk.spLaw K, KX, hb, fun H a ns hl _ hS => ⟨a, ns, rfl, hS, hl, fun _ => rfl⟩, hF⟩

