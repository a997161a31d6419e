import PyProof.Rows.All
import Wide.All
import OpenK.AllK
import Wide.FinOn
import KE.KStateDown
import HandS.Base
import HandS.Call
import HandS.List
import HandS.Comp
import HandS.Ends
import HandS.Dict
import HandS.Iter
import HandS.Text
import HandS.StrMore
import HandS.More
import HandS.Words
import HandS.WordsList
import HandS.WordsExc
import HandS.Exc
import HandS.ExcOwn
import HandS.ExcIs
import HandS.TryOnly
import HandS.IsInst
import HandS.Codes
import HandS.Defaults
import HandS.Wide
import HandS.Gcd
import KE.KOpsOwn
import KE.HD0
import KE.HD1
import KE.HD2
import KE.HD3
import HandS.Head0
import HandS.Head1
import HandS.Head2
import HandS.HeadEnd
import HandS.HeadHook1
import HandS.HeadHook2
import HandS.HeadHook3
import HandS.HeadHook4
import Flt.Len
import PyProof.NoPylong
import HandS.ExcInit
import HandS.ExcField
import HandS.FStr
import HandS.Evl
import PySem.Challenge.RW_linkwork_k21_bad_tokens
set_option Elab.async false
set_option linter.all false
set_option maxRecDepth 100000
namespace Lk
open PySem PySem.Spec L2
open PyProof.Rows hiding St
/-! ### the head's facts, the interpreter's own statics among what is written -/
def asS (g : Addr → Option Obj) (n : Nat) : List Addr := He.asD g n ++ [cStatics]
abbrev AlS : Type := He.AlD × Bool
def obsS (n : Nat) (fa : List He.Fa) (fn : List He.DefD) (ex : PySem.W.Frag → Bool) (g : Addr → Option Obj) : AlS := (He.obsD fa fn (He.frT g (asS g n)), ex (He.frT g (asS g n)))
structure SaysS (fa : List He.Fa) (fn : List He.DefD) (ex : PySem.W.Frag → Bool) (K : PySem.W.Frag) : Prop where
  d : He.SaysD fa fn K
  more : ex K = true
def hookS (n : Nat) (fa : List He.Fa) (fn : List He.DefD) (ex : PySem.W.Frag → Bool) : PySem.W.Hook where
  α := AlS
  obs := fun s => obsS n fa fn ex s.heap.get?
  val := fun _ => (He.valD fn, true)
  says := fun _ h => ∃ K : PySem.W.Frag, K.In h ∧ SaysS fa fn ex K
  of := fun _ _ e => ⟨_, He.frT_in, ⟨congrArg (fun z : AlS => z.1) e, congrArg (fun z : AlS => z.2) e⟩⟩
  keeps := fun _ _ _ z k => by
    obtain ⟨K, hK, c⟩ := z
    exact ⟨K, PySem.W.Frag.In.keeps hK k, c⟩
theorem obsS_eq {n : Nat} {fa : List He.Fa} {fn : List He.DefD} {ex : PySem.W.Frag → Bool} {g : Addr → Option Obj} {s : Shared} (h : ∀ a, g a = s.heap.get? a) : obsS n fa fn ex g = (hookS n fa fn ex).obs s := by
  have e : g = s.heap.get? := funext h
  rw [e] <;> rfl
/-! ### steps of a reading, from the left -/
section
variable {σ : St} {H : Hp} {Q : VK} {ta tb te : TE} {i : Nat} {v x y : V} {nx : St → Hp → Prop} {rt : VK} {bk ct : St → Hp → Prop} {t u : TS} {c : TT}
theorem r_seq (h : t ⟨fun σ H => u ⟨nx, rt, bk, ct⟩ σ H, rt, bk, ct⟩ σ H) : tSeq t u ⟨nx, rt, bk, ct⟩ σ H := h
theorem r_set (h : te σ H fun x H1 => nx (σ.set i (some x)) H1) : tAsg te (gName i) ⟨nx, rt, bk, ct⟩ σ H := h
theorem r_ret (h : te σ H rt) : tRet te ⟨nx, rt, bk, ct⟩ σ H := h
theorem r_next (h : nx σ H) : tNext ⟨nx, rt, bk, ct⟩ σ H := h
theorem r_drop (h : te σ H fun _ H1 => nx σ H1) : tDrop te ⟨nx, rt, bk, ct⟩ σ H := h
theorem r_if (h : c σ H fun b H1 => if b = true then t ⟨nx, rt, bk, ct⟩ σ H1 else u ⟨nx, rt, bk, ct⟩ σ H1) : tIfS c t u ⟨nx, rt, bk, ct⟩ σ H := h
theorem r_brk (h : bk σ H) : tBreak ⟨nx, rt, bk, ct⟩ σ H := h
theorem r_cont (h : ct σ H) : tCont ⟨nx, rt, bk, ct⟩ σ H := h
theorem r_var (e : σ[i]? = some (some v)) (h : Q v H) : tVar i σ H Q := ⟨v, e, h⟩
theorem r_c (h : Q v H) : tC v σ H Q := h
theorem r_op {r : R2} (h : ta σ H fun x H1 => tb σ H1 fun y H2 => r x y H2 Q) : tOp r ta tb σ H Q := h
theorem r_un {r : V → Hp → VK → Prop} (h : ta σ H fun x H1 => r x H1 Q) : tUn r ta σ H Q := h
theorem r_I0 {g : Int → Int → V} {i j : Int} (h : Q (g i j) H) : rI0 g (.int i) (.int j) H Q := ⟨i, j, rfl, rfl, h⟩
theorem r_I {C : Int → Int → Prop} {g : Int → Int → V} {i j : Int} (hc : C i j) (h : Q (g i j) H) : rI C g (.int i) (.int j) H Q := ⟨i, j, rfl, rfl, hc, h⟩
theorem r_U {g : Int → V} {i : Int} (h : Q (g i) H) : rU g (.int i) H Q := ⟨i, rfl, h⟩
theorem r_eq (hs : scal x y = true) (h : Q (.bl (decide (x = y))) H) : rEq x y H Q := ⟨hs, h⟩
theorem r_ne (hs : scal x y = true) (h : Q (.bl (!decide (x = y))) H) : rNe x y H Q := ⟨hs, h⟩
theorem r_test {P : Bool → Hp → Prop} (h : te σ H fun x H' => ∃ k, x = .bl k ∧ P k H') : tTest te σ H P := h
theorem r_B {P : Bool → Hp → Prop} (h : te σ H fun x H' => ∃ k, x = .bl k ∧ P k H') : tB te σ H P := h
theorem r_bl {b : Bool} {P : Bool → Prop} (h : P b) : ∃ k, V.bl b = .bl k ∧ P k := ⟨b, rfl, h⟩
theorem r_nilA {P : List V → Hp → Prop} (h : P [] H) : tNil σ H P := h
theorem r_consA {tr : TA} {P : List V → Hp → Prop} (h : te σ H fun x H1 => tr σ H1 fun xs H2 => P (x :: xs) H2) : tCons te tr σ H P := h
theorem r_call {sp : Sp} {dvs : List V} {E : XK} {t : TA} (h : t σ H fun vs H1 => sp (vs ++ dvs) H1 Q E) : tCall sp dvs E t σ H Q := h
theorem r_callS {sp : Sp} {E : St → XK} {t : TA} (h : t σ H fun vs H1 => sp vs H1 Q (E σ)) : tCallS sp E t σ H Q := h
theorem r_CB {r : List V → Hp → VK → Prop} {t : TA} (h : t σ H fun vs H1 => r vs H1 Q) : tCB r t σ H Q := h
theorem r_tup {t : TA} (h : t σ H fun xs H1 => xs.length ≤ sizeLine ∧ ∀ p, H1 p = none → Q (.ref p) (upd H1 p (.tup xs))) : tTup t σ H Q := h
theorem r_lst {t : TA} (h : t σ H fun xs H1 => xs.length ≤ sizeLine ∧ ∀ p, H1 p = none → Q (.ref p) (upd H1 p (.lst xs))) : tLst t σ H Q := h
theorem r_and {u : TT} {P : Bool → Hp → Prop} (h : c σ H fun k H1 => if k = true then u σ H1 P else P false H1) : tAnd c u σ H P := h
theorem r_or {u : TT} {P : Bool → Hp → Prop} (h : c σ H fun k H1 => if k = true then P true H1 else u σ H1 P) : tOr c u σ H P := h
theorem r_not {P : Bool → Hp → Prop} (h : c σ H fun k H1 => P (!k) H1) : tNot c σ H P := h
theorem r_andV (h : ta σ H fun x H1 => ∃ k, x = .bl k ∧ if k = true then tb σ H1 Q else Q (.bl false) H1) : tAndV ta tb σ H Q := h
theorem r_orV (h : ta σ H fun x H1 => ∃ k, x = .bl k ∧ if k = true then Q (.bl true) H1 else tb σ H1 Q) : tOrV ta tb σ H Q := h
theorem r_notV (h : ta σ H fun x H1 => ∃ k, x = .bl k ∧ Q (.bl (!k)) H1) : tNotV ta σ H Q := h
theorem r_ifE (h : c σ H fun k H1 => if k = true then ta σ H1 Q else tb σ H1 Q) : tIf c ta tb σ H Q := h
theorem r_ixL {K : PySem.W.Frag} {p : Addr} {xs : List V} {i : Int} (hs : SqL K H p xs) (ha : atI xs i = some v) (h : Q v H) : rIxL K (.ref p) (.int i) H Q := ⟨p, xs, i, v, rfl, rfl, hs, ha, h⟩
theorem r_ixT {K : PySem.W.Frag} {p : Addr} {xs : List V} {i : Int} (hs : SqT K H p xs) (ha : atI xs i = some v) (h : Q v H) : rIxT K (.ref p) (.int i) H Q := ⟨p, xs, i, v, rfl, rfl, hs, ha, h⟩
theorem r_fld {K : PySem.W.Frag} {f : Str} (h : ta σ H fun x H1 => ∃ a C dx fs v, x = .ref a ∧ H1 a = some (.ins C dx fs) ∧ Cls K C ∧ NoAttr K C f ∧ fs.lookup f = some v ∧ Q v H1) : tFld K ta f σ H Q := h
theorem r_sub {to ti : TE} {ts : TSet} {D : St → Hp → Prop} (h : to σ H fun o H1 => ti σ H1 fun i H2 => ts o i v H2 fun H3 => D σ H3) : gSub to ti ts v σ H D := h
theorem r_asg {g : TG} (h : te σ H fun x H1 => g x σ H1 nx) : tAsg te g ⟨nx, rt, bk, ct⟩ σ H := h
theorem r_setL {D : Hp → Prop} {p : Addr} {xs : List V} {k : Int} {j : Nat} (hp : H p = some (.lst xs)) (hj : ixN xs.length k = some j) (h : D (upd H p (.lst (xs.set j v)))) : rSetL (.ref p) (.int k) v H D := ⟨p, xs, k, j, rfl, rfl, hp, hj, h⟩
theorem r_par {i j : Nat} {ta : TA} (h : ta σ H fun vs H1 => ∃ v w, vs = [v, w] ∧ nx ((σ.set i (some v)).set j (some w)) H1) : tPar i j ta ⟨nx, rt, bk, ct⟩ σ H := h
theorem r_par2 {v w : V} {P : V → V → Prop} (h : P v w) : ∃ a b, [v, w] = [a, b] ∧ P a b := ⟨v, w, rfl, h⟩
theorem ite_d {p A B : Prop} [Decidable p] (h1 : p → A) (h2 : ¬ p → B) : if decide p = true then A else B := by
  by_cases h : p
  · rw [if_pos (decide_eq_true h)]; exact h1 h
  · rw [if_neg (by simp [h])]; exact h2 h
theorem ite_nd {p A B : Prop} [Decidable p] (h1 : ¬ p → A) (h2 : p → B) : if (!decide p) = true then A else B := by
  by_cases h : p
  · rw [if_neg (by simp [h])]; exact h2 h
  · rw [if_pos (by simp [h])]; exact h1 h
theorem ite_b {b : Bool} {A B : Prop} (h1 : b = true → A) (h2 : b = false → B) : if b = true then A else B := by
  cases b with
  | true => exact if_pos rfl ▸ h1 rfl
  | false => exact if_neg Bool.false_ne_true ▸ h2 rfl
theorem vint_inj {i j : Int} (h : V.int i = V.int j) : i = j := V.int.inj h
theorem vint_ne {i j : Int} (h : ¬ V.int i = V.int j) : ¬ i = j := fun e => h (congrArg V.int e)
theorem vstr_inj {i j : Str} (h : V.str i = V.str j) : i = j := V.str.inj h
end
/-- a module's constant -/
theorem pe_globE {X : Cx} {x : Str} {v : V} {pos : Pos} (hg : Gl X x) (h : ∃ u, X.mg x = some u ∧ RelV v u) (hd : (x == ("__debug__" : Str)) = false := by decide) : PE X (.Name x pos) (tC v) := by
  obtain ⟨u, hm, r⟩ := h
  exact pe_glob hg hm r hd
/-- // of any divisor but 0 below 2 ^ 9000 -/
def CDivG (_ j : Int) : Prop := j ≠ 0 ∧ j.natAbs.log2 < 9000
theorem op_fdivG {X : Cx} : OpR X (binaryOp .FloorDiv) (rI CDivG fun i j => .int (i.fdiv j)) := opI fun i j _ _ _ _ _ hc q => floordiv_int hc.1 q (.inl (PyProof.noPylong_of_log2 hc.2))
theorem cdivG {i j : Int} {b : Nat} (h : j ≠ 0) (hb : j.natAbs < 2 ^ b) (h0 : 0 < b) (h9 : b ≤ 9000) : CDivG i j := ⟨h, Nat.lt_of_lt_of_le (PySem.Flt.log2_lt_of h0 hb) h9⟩
theorem r_int1 {H : Hp} {Q : VK} {i : Int} (h : Q (.int i) H) : (∃ j, [V.int i] = [.int j] ∧ Q (.int j) H) ∨ ∃ k, [V.int i] = [.bl k] ∧ Q (.int (if k then 1 else 0)) H := .inl ⟨i, rfl, h⟩
theorem r_intB {H : Hp} {Q : VK} {k : Bool} (h : Q (.int (if k then 1 else 0)) H) : (∃ j, [V.bl k] = [.int j] ∧ Q (.int j) H) ∨ ∃ k', [V.bl k] = [.bl k'] ∧ Q (.int (if k' then 1 else 0)) H := .inr ⟨k, rfl, h⟩
theorem r_abs {H : Hp} {Q : VK} {i : Int} (h : Q (.int (if i < 0 then -i else i)) H) : ∃ j, [V.int i] = [.int j] ∧ Q (.int (if j < 0 then -j else j)) H := ⟨i, rfl, h⟩
/-! ### one step, at the goal's head -/

theorem r_lenL {K : PySem.W.Frag} {H : Hp} {Q : VK} {p : Addr} {ys : List V} (hs : SqL K H p ys) (h : Q (.int ys.length) H) : ∃ q zs, [V.ref p] = [.ref q] ∧ (SqL K H q zs ∨ SqT K H q zs) ∧ Q (.int zs.length) H := ⟨p, ys, rfl, .inl hs, h⟩
theorem r_lenT {K : PySem.W.Frag} {H : Hp} {Q : VK} {p : Addr} {ys : List V} (hs : SqT K H p ys) (h : Q (.int ys.length) H) : ∃ q zs, [V.ref p] = [.ref q] ∧ (SqL K H q zs ∨ SqT K H q zs) ∧ Q (.int zs.length) H := ⟨p, ys, rfl, .inr hs, h⟩
theorem r_listL {K : PySem.W.Frag} {H : Hp} {Q : VK} {p : Addr} {ys : List V} (hs : SqL K H p ys) (h : ∀ l, H l = none → Q (.ref l) (upd H l (.lst ys))) : ∃ q zs, [V.ref p] = [.ref q] ∧ (SqL K H q zs ∨ SqT K H q zs) ∧ ∀ l, H l = none → Q (.ref l) (upd H l (.lst zs)) := ⟨p, ys, rfl, .inl hs, h⟩
theorem r_sfld {K : PySem.W.Frag} {ta tv : TE} {f : Str} {nx : St → Hp → Prop} {rt : VK} {bk ct : St → Hp → Prop} {σ : St} {H : Hp}
    (h : tv σ H fun y H1 => ta σ H1 fun x H2 => ∃ a C dx fs, x = .ref a ∧ H2 a = some (.ins C dx fs) ∧ Cls K C ∧ NoAttr K C f ∧ fs.length < 1000 ∧ nx σ (upd H2 a (.ins C dx (putF f y fs)))) : sFld K ta tv f ⟨nx, rt, bk, ct⟩ σ H := h
/-! ### how large an int is -/
def Bits (b : Nat) (i : Int) : Prop := i.natAbs < 2 ^ b
theorem Bits.mono {a b : Nat} {i : Int} (h : Bits a i) (l : a ≤ b) : Bits b i := Nat.lt_of_lt_of_le h (Nat.pow_le_pow_right (by decide) l)
theorem Bits.mul {a b : Nat} {i j : Int} (h : Bits a i) (g : Bits b j) : Bits (a + b) (i * j) := wide_lt h g
theorem Bits.add {a b c : Nat} {i j : Int} (h : Bits a i) (g : Bits b j) (l1 : a < c) (l2 : b < c) : Bits c (i + j) := by
  have h2 : i.natAbs < 2 ^ (c - 1) := Bits.mono (b := c - 1) h (by omega)
  have g2 : j.natAbs < 2 ^ (c - 1) := Bits.mono (b := c - 1) g (by omega)
  have e : 2 ^ c = 2 ^ (c - 1) + 2 ^ (c - 1) := by
    obtain ⟨k, rfl⟩ : ∃ k, c = k + 1 := ⟨c - 1, by omega⟩
    rw [Nat.add_sub_cancel, Nat.pow_succ]
    omega
  show (i + j).natAbs < 2 ^ c
  rw [e]
  have := Int.natAbs_add_le i j
  omega
theorem Bits.neg {a : Nat} {i : Int} (h : Bits a i) : Bits a (-i) := by
  show (-i).natAbs < _
  rw [Int.natAbs_neg]
  exact h
theorem Bits.sub {a b c : Nat} {i j : Int} (h : Bits a i) (g : Bits b j) (l1 : a < c) (l2 : b < c) : Bits c (i - j) := by
  rw [Int.sub_eq_add_neg]
  exact Bits.add h g.neg l1 l2
theorem Bits.small {i : Int} {b : Nat} (h : i.natAbs < 18446744073709551616) (l : 64 ≤ b) : Bits b i := Bits.mono (a := 64) (show i.natAbs < 2 ^ 64 from h) l
theorem Bits.mulW {a b : Nat} {i j : Int} (h : Bits a i) (g : Bits b j) (l : a + b + 2 ≤ 1000000) : CMulW i j := wide_mul (h.mono (Nat.le_succ a)) (g.mono (Nat.le_succ b)) (Nat.succ_pos _) (Nat.succ_pos _) (by omega)
theorem Bits.divG {b : Nat} {i j : Int} (h : j ≠ 0) (g : Bits b j) (l : b + 1 ≤ 9000) : CDivG i j := cdivG h (g.mono (Nat.le_succ b)) (Nat.succ_pos _) l
theorem Bits.of_le {b : Nat} {i j : Int} (h : i.natAbs ≤ j.natAbs) (g : Bits b j) : Bits b i := Nat.lt_of_le_of_lt h g
theorem ite_nt {A B : Prop} (h : B) : if (!true) = true then A else B := iteF h
theorem ite_nf {A B : Prop} (h : A) : if (!false) = true then A else B := iteT h
/-! ### the law's stream: a list of the script's copy and three ints; told as ONE thing, so that a draw leaves the abstract heap as it is -/
def okS (j k : Int) : Prop := 0 ≤ j ∧ 0 ≤ k ∧ k < 2147483648
def phiS (s l : Addr) : Heap → Prop := fun h => ∃ (i j k : Int) (t u v : Tok) (n : Nat), h.get? s = some { cls := .type "list", data := .seq #[.ref l, .int i t, .int j u, .int k v] n } ∧ okS j k
def Strm (H : Hp) (s : Addr) : Prop := ∃ (l : Addr) (ns : List Int), H s = some (.ext (phiS s l)) ∧ H l = some (.lst (ns.map V.int)) ∧ ns.length ≤ 63
theorem Strm.mono {H H' : Hp} {s : Addr} (h : Strm H s) (e : Same H H') : Strm H' s := by
  obtain ⟨l, ns, h1, h2, h3⟩ := h
  exact ⟨l, ns, e _ _ h1, e _ _ h2, h3⟩
def cellsV (l : Addr) (i j k : Int) : List V := [.ref l, .int i, .int j, .int k]
theorem Vals.cells {l : Addr} {i j k : Int} {us : List Value} (h : Vals (cellsV l i j k) us) : ∃ t u v, us = [.ref l, .int i t, .int j u, .int k v] := by
  unfold cellsV at h
  cases h with
  | cons r0 h => cases h with
    | cons r1 h => cases h with
      | cons r2 h => cases h with
        | cons r3 h =>
          cases h
          obtain ⟨t, rfl⟩ := r1
          obtain ⟨u, rfl⟩ := r2
          obtain ⟨v, rfl⟩ := r3
          cases (show _ = Value.ref l from r0)
          exact ⟨t, u, v, rfl⟩
section
variable {X : Cx} {pins : List (Addr × Obj)} {σ : St} {H : Hp} {s : Shared} {a l : Addr}
/-- the abstract heap is told otherwise at one address, the heap stays -/
theorem Inv.retell {o o' : HO} (I : Inv X pins σ H s) (ha : H a = some o) (m : Mut (some o)) (m' : Mut (some o')) (new : ObjOk X.prog X.w (upd H a o') s.heap a o') : Inv X pins σ (upd H a o') s := by
  have hx : ∀ b u, H b = some u → ¬ Mut (some u) → b ≠ a := fun b u e nm z => by
    rw [z, ha] at e
    cases e
    exact nm m
  have un : Un X.fs [] H (upd H a o') s.heap s.heap := ⟨fun _ _ e _ _ _ => e, fun b ob e _ _ _ => ⟨ob.slots, e⟩, fun b ob e n _ => by
      rw [upd_ne (show b ≠ a from fun z => by rw [z, ha] at n; cases n)]; exact n, fun b ob e _ => ⟨ob, e⟩,
    fun b xs e => by rw [upd_ne (hx b _ e fun z => z)]; exact e, fun b ob u e => by rw [upd_ne (hx b _ e fun z => z)]; exact e, fun b ps e => ⟨#[], by rw [upd_ne (hx b _ e fun z => z), e]; simp⟩⟩
  have mu : Mut (H a) := by rw [ha]; exact m
  have hk : HOk X.prog X.w (upd H a o') s.heap := by
    obtain ⟨u, hu⟩ := objOk_get (I.hok a _ ha)
    exact I.hok.write mu (.inl rfl) (fun _ _ _ e => e) ⟨u, hu⟩ new
  exact I.un (h' := s.heap) (t' := s.toks) un hk
theorem phi_open {h : Heap} (P : Program) (w : World) (H : Hp) (x : ObjOk P w H h a (.ext (phiS a l))) : ∃ i j k : Int, okS j k ∧ ObjOk P w (upd H a (.lst (cellsV l i j k))) h a (.lst (cellsV l i j k)) := by
  obtain ⟨⟨i, j, k, t, u, v, n, e, hj⟩, _⟩ := x
  exact ⟨i, j, k, hj, (by show 4 ≤ sizeLine; decide), _, n, .cons rfl (.cons ⟨t, rfl⟩ (.cons ⟨u, rfl⟩ (.cons ⟨v, rfl⟩ .nil))), e⟩
theorem phi_close {h : Heap} {P : Program} {w : World} {H H' : Hp} {i j k : Int} (x : ObjOk P w H h a (.lst (cellsV l i j k))) (hj : okS j k) : ObjOk P w H' h a (.ext (phiS a l)) := by
  obtain ⟨_, its, n, r, e⟩ := x
  obtain ⟨t, u, v, rfl⟩ := Vals.cells r
  refine ⟨⟨i, j, k, t, u, v, n, e, hj⟩, ⟨_, e⟩, fun h1 h2 ⟨i, j, k, t, u, v, n, e, hj⟩ st => ⟨i, j, k, t, u, v, n, st _ e, hj⟩⟩
/-- within: the stream's four cells are told; behind: one thing again -/
def shutS (a l : Addr) (N : St → Hp → Prop) : St → Hp → Prop := fun σ H => ∃ i j k : Int, H a = some (.lst (cellsV l i j k)) ∧ okS j k ∧ N σ (upd H a (.ext (phiS a l)))
def shutV (a l : Addr) (N : VK) : VK := fun v H => ∃ i j k : Int, H a = some (.lst (cellsV l i j k)) ∧ okS j k ∧ N v (upd H a (.ext (phiS a l)))
def tOpen (a l : Addr) (t : TS) : TS := fun D σ H => H a = some (.ext (phiS a l)) ∧ ∀ i j k : Int, okS j k → t ⟨shutS a l D.nx, shutV a l D.rt, shutS a l D.bk, shutS a l D.ct⟩ σ (upd H a (.lst (cellsV l i j k)))
theorem Inv.shut {i j k : Int} (I : Inv X pins σ H s) (ha : H a = some (.lst (cellsV l i j k))) (hj : okS j k) : Inv X pins σ (upd H a (.ext (phiS a l))) s :=
  Inv.retell I ha trivial trivial (phi_close (I.hok a _ ha) hj)
theorem r_open {t : TS} {nx : St → Hp → Prop} {rt : VK} {bk ct : St → Hp → Prop} (h : H a = some (.ext (phiS a l))) (k : ∀ i j k : Int, okS j k → t ⟨shutS a l nx, shutV a l rt, shutS a l bk, shutS a l ct⟩ σ (upd H a (.lst (cellsV l i j k)))) : tOpen a l t ⟨nx, rt, bk, ct⟩ σ H := ⟨h, k⟩
theorem pss_open {body : List Stmt} {t : TS} (a l : Addr) (h : PSs X body t) : PSs X body (tOpen a l t) := by
  refine ⟨fun pins s σ H D I q => ?_⟩
  obtain ⟨ha, q⟩ := q
  obtain ⟨i, j, k, hj, ok⟩ := phi_open (a := a) (l := l) X.prog X.w H (I.hok a _ ha)
  refine thn (h.run pins s σ _ _ (Inv.retell (o' := .lst (cellsV l i j k)) I ha trivial trivial ok) (q i j k hj)) fun f s1 z => ?_
  cases f with
  | next =>
    obtain ⟨σ', H', I', i, j, k, e, hj, n⟩ := z
    exact ⟨σ', _, Inv.shut I' e hj, n⟩
  | brk =>
    obtain ⟨σ', H', I', i, j, k, e, hj, n⟩ := z
    exact ⟨σ', _, Inv.shut I' e hj, n⟩
  | cont =>
    obtain ⟨σ', H', I', i, j, k, e, hj, n⟩ := z
    exact ⟨σ', _, Inv.shut I' e hj, n⟩
  | ret u =>
    obtain ⟨v, σ', H', I', r, i, j, k, e, hj, n⟩ := z
    exact ⟨v, σ', _, Inv.shut I' e hj, r, n⟩
/-- a list of four is told as a stream where it is handed back -/
def tShut (t : TS) : TS := fun D σ H => t ⟨D.nx, fun v H' => ∃ (a l : Addr) (i j k : Int), v = .ref a ∧ H' a = some (.lst (cellsV l i j k)) ∧ okS j k ∧ D.rt v (upd H' a (.ext (phiS a l))), D.bk, D.ct⟩ σ H
theorem r_shut {t : TS} {nx : St → Hp → Prop} {rt : VK} {bk ct : St → Hp → Prop} (h : t ⟨nx, fun v H' => ∃ (a l : Addr) (i j k : Int), v = .ref a ∧ H' a = some (.lst (cellsV l i j k)) ∧ okS j k ∧ rt v (upd H' a (.ext (phiS a l))), bk, ct⟩ σ H) : tShut t ⟨nx, rt, bk, ct⟩ σ H := h
theorem pss_shut {body : List Stmt} {t : TS} (h : PSs X body t) : PSs X body (tShut t) := by
  refine ⟨fun pins s σ H D I q => ?_⟩
  refine thn (h.run pins s σ _ _ I q) fun f s1 z => ?_
  cases f with
  | ret u =>
    obtain ⟨v, σ', H', I', r, a, l, i, j, k, rfl, e, hj, n⟩ := z
    exact ⟨_, σ', _, Inv.shut I' e hj, r, n⟩
  | next => exact z
  | brk => exact z
  | cont => exact z
end
/-- what the stream leaves behind is the heap ahead -/
theorem upd_back {H : Hp} {a : Addr} {o o' : HO} (h : H a = some o') : upd (upd H a o) a o' = H := by
  funext b
  by_cases e : b = a
  · rw [e, upd_same, h]
  · rw [upd_ne e, upd_ne e]
theorem upd_back2 {H : Hp} {a : Addr} {o o1 o' : HO} (h : H a = some o') : upd (upd (upd H a o) a o1) a o' = H := by
  rw [upd_upd, upd_back h]
theorem upd_back3 {H : Hp} {a : Addr} {o o1 o2 o' : HO} (h : H a = some o') : upd (upd (upd (upd H a o) a o1) a o2) a o' = H := by
  rw [upd_upd, upd_upd, upd_back h]
/-! ### C(..) where what its __init__ raises is wished for at the slots -/
section
variable {X : Cx} {CX : CXT} {k : Nat} {f C : Addr} {fd : FuncData} {ps : List Str} {sp : Sp} {dvs : List V} {ds : List Value} {E : St → XK} {x : Str} {p pos : Pos} {e : Expr} {es : List Expr} {t : TA}
def tMakeS (C : Addr) (sp : Sp) (dvs : List V) (E : St → XK) (t : TA) : TE := fun σ H Q => t σ H fun vs H1 => ∀ x dx, H1 x = none → H1 dx = none → dx ≠ x →
  sp (.ref x :: (vs ++ dvs)) (upd (upd H1 dx (.own x)) x (.ins C dx [])) (fun v H2 => v = .non ∧ Q (.ref x) H2) (E σ)
theorem make_atS {pins : List (Addr × Obj)} {σ : St} {H : Hp} {s : Shared} {Q : VK} {us : List Value} {vs : List V} (mk : Mk X.K C f) (ok : FnOk X.prog X.w X.K X.mg X.base CX k f fd ps sp) (room : Room (k + 1) X.A) (bd : Binds X.K fd ps ds) (dv : Vals dvs ds)
    (pass : PassesAt CX X σ (E σ)) (I : Inv X pins σ H s) (rel : Vals vs us)
    (ask : ∀ x dx, H x = none → H dx = none → dx ≠ x → sp (.ref x :: (vs ++ dvs)) (upd (upd H dx (.own x)) x (.ins C dx [])) (fun v H2 => v = .non ∧ Q (.ref x) H2) (E σ)) :
    wpAny (model X.prog X.w) X.A (call (.ref C) us) (EP X pins σ Q) X.xe s := by
  let n := s.heap.objs.size
  have want := ask (n + 1) n (I.hok.fresh (Nat.le_succ _)) (I.hok.fresh (Nat.le_refl _)) (by show n ≠ n + 1; omega)
  have J := Inv.made (C := C) I
  have relS : Vals (V.ref (n + 1) :: (vs ++ dvs)) (Value.ref (n + 1) :: (us ++ ds)) := .cons rfl (rel.append dv)
  have many : (Value.ref (n + 1) :: us ++ ds).length = ps.length := relS.length.symm.trans (ok.len _ _ _ _ want)
  have go := ok.run _ X.stack _ _ ⟨Value.ref (n + 1) :: us, []⟩ (Value.ref (n + 1) :: (us ++ ds)) _ _ (E σ) (room.make C us []) (J.env0.make C us []) (bd _ (Value.ref (n + 1) :: us) J.kIn many) relS want
  refine wpAny_call (make_map (f := f) I.kIn mk.makes mk.init (beq_iff_eq.mp mk.fn) (codeAny_mono go fun out s' end_ => ?_))
  match out, end_ with
  | .error e, end_ => exact pass pins _ _ e s' J end_
  | .ok (.ret u), end_ =>
    obtain ⟨v, H', I3, rv, ev, q3⟩ := J.after end_
    cases ev
    exact ⟨rv, V.ref (n + 1), H', I3, rfl, q3⟩
  | .ok .next, end_ => exact end_.elim
  | .ok .brk, end_ => exact end_.elim
  | .ok .cont, end_ => exact end_.elim
theorem pe_makeS (mk : Mk X.K C f) (ok : FnOk X.prog X.w X.K X.mg X.base CX k f fd ps sp) (room : Room (k + 1) X.A) (gl : Gl X x) (gm : X.mg x = some (.ref C)) (bd : Binds X.K fd ps ds) (dv : Vals dvs ds) (pass : ∀ σ, PassesAt CX X σ (E σ))
    (args : PA X (e :: es) t) (d1 : (x == ("__debug__" : Str)) = false := by decide) (d2 : starEach (e :: es) X.env = (false, eval e X.env) :: starEach es X.env := by rfl) (d3 : (backTo pos (starEach es X.env)).any (·.1) = false := by rfl) :
    PE X (.Call (.Name x p) (e :: es) [] pos) (tMakeS C sp dvs E t) :=
  ⟨fun pins s σ H Q I h => wpAny_Call_Name_kw (ld_glob I gl gm (PySem.W.callWith_K (h₀ := X.base) I.ok.mod.kin mk.kp (thn (args.run pos pins s σ H _ I h) fun us s1 ⟨vs, H1, I1, r, q⟩ => ⟨I1.kIn, make_atS mk ok room bd dv (pass σ) I1 r q⟩) d2 d3) d1)⟩
theorem passX {E : XK} (tk : Takes X (fun cls d _ H => E cls d H)) : Passes (L2.CX X.prog X.w) X E := fun pins σ H s e s' I c => passes_call tk (fun _ _ _ _ z => z) pins σ H s e s' I c
end
section
variable {σ : St} {H : Hp} {Q : VK} {C : Addr} {sp : Sp} {dvs : List V} {t : TA}
theorem r_make {E : XK} (h : t σ H fun vs H1 => ∀ x dx, H1 x = none → H1 dx = none → dx ≠ x → sp (.ref x :: (vs ++ dvs)) (upd (upd H1 dx (.own x)) x (.ins C dx [])) (fun v H2 => v = .non ∧ Q (.ref x) H2) E) : tMake C sp dvs E t σ H Q := h
theorem r_makeS {E : St → XK} (h : t σ H fun vs H1 => ∀ x dx, H1 x = none → H1 dx = none → dx ≠ x → sp (.ref x :: (vs ++ dvs)) (upd (upd H1 dx (.own x)) x (.ins C dx [])) (fun v H2 => v = .non ∧ Q (.ref x) H2) (E σ)) : tMakeS C sp dvs E t σ H Q := h
end
/-! ### loops -/
def forR (J : It) (g : TG) (tb : TS) (D : Ends) (σ : St) (H : Hp) : Prop := ∃ W : Nat → Nat → St → Hp → Prop, (∃ m, W 0 m σ H) ∧ ∀ i m σ H, W i m σ H →
  (J.stop i H ∧ D.nx σ H) ∨ (J.go i H ∧ ∃ N : St → Hp → Prop, (∀ σ' H', N σ' H' → ∃ m', m' < m ∧ W (i + 1) m' σ' H') ∧ ∀ x H', J.yld i H x H' → g x σ H' fun σ2 H2 => tb { D with nx := N, ct := N, bk := D.nx } σ2 H2)
section
variable {σ : St} {H : Hp} {wi : TI} {g : TG} {tb : TS} {nx : St → Hp → Prop} {rt : VK} {bk ct : St → Hp → Prop} {ta : TA} {tl : TE} {K : PySem.W.Frag} {a : Addr} {xs : List V} {k : Nat} {c : TT}
theorem r_for (h : wi σ H fun J H1 => forR J g tb ⟨nx, rt, bk, ct⟩ σ H1) : tFor wi g tb ⟨nx, rt, bk, ct⟩ σ H := h
theorem r_iRng1 {R : It → Hp → Prop} (h : ta σ H fun vs H1 => ∃ j : Int, vs = [.int j] ∧ -(2 ^ 62) ≤ j ∧ j < 2 ^ 62 ∧ R (Itr 0 j.toNat) H1) : iRng1 ta σ H R := h
theorem r_iList {R : It → Hp → Prop} (h : tl σ H fun x H1 => ∃ a, x = .ref a ∧ (∃ xs, SqL K H1 a xs) ∧ R (Itl K a) H1) : iList K tl σ H R := h
theorem r_rng1 {i : Int} {P : It → Prop} (h1 : -(2 ^ 62) ≤ i) (h2 : i < 2 ^ 62) (h : P (Itr 0 i.toNat)) : ∃ j : Int, [V.int i] = [.int j] ∧ -(2 ^ 62) ≤ j ∧ j < 2 ^ 62 ∧ P (Itr 0 j.toNat) := ⟨i, rfl, h1, h2, h⟩
theorem r_lstI {P : It → Prop} (hs : SqL K H a xs) (h : P (Itl K a)) : ∃ b, V.ref a = .ref b ∧ (∃ xs, SqL K H b xs) ∧ P (Itl K b) := ⟨a, rfl, ⟨xs, hs⟩, h⟩
theorem for_rng {lo : Int} {n : Nat} (Pv : Nat → St → Hp → Prop) (h0 : Pv 0 σ H) (hs : ∀ i σ H, i < n → Pv i σ H → tb ⟨Pv (i + 1), rt, nx, Pv (i + 1)⟩ (σ.set k (some (.int (lo + (i : Int))))) H) (hd : ∀ σ H, Pv n σ H → nx σ H) :
    forR (Itr lo n) (gName k) tb ⟨nx, rt, bk, ct⟩ σ H := for_range (D := ⟨nx, rt, bk, ct⟩) Pv h0 hs hd
theorem for_lst (Pv : Nat → St → Hp → Prop) (h0 : Pv 0 σ H) (hl : ∀ i σ H, i ≤ xs.length → Pv i σ H → SqL K H a xs) (hs : ∀ i x σ H, xs[i]? = some x → Pv i σ H → tb ⟨Pv (i + 1), rt, nx, Pv (i + 1)⟩ (σ.set k (some x)) H) (hd : ∀ σ H, Pv xs.length σ H → nx σ H) :
    forR (Itl K a) (gName k) tb ⟨nx, rt, bk, ct⟩ σ H := for_list (D := ⟨nx, rt, bk, ct⟩) Pv h0 hl hs hd
/-- a while by a word with a measure; behind the test: ⟨_, fun _ _ n => n, ..⟩ -/
theorem r_while (W : Nat → St → Hp → Prop) (m0 : Nat) (h0 : W m0 σ H) (hs : ∀ m σ H, W m σ H → c σ H fun b H1 => if b = true then ∃ N : St → Hp → Prop, (∀ σ' H', N σ' H' → ∃ m', m' < m ∧ W m' σ' H') ∧ tb ⟨N, rt, nx, N⟩ σ H1 else nx σ H1) :
    tWhile c tb ⟨nx, rt, bk, ct⟩ σ H := ⟨W, ⟨m0, h0⟩, hs⟩
theorem r_cut {t u : TS} (Mid : St → Hp → Prop) (h1 : t ⟨Mid, rt, bk, ct⟩ σ H) (h2 : ∀ σ H, Mid σ H → u ⟨nx, rt, bk, ct⟩ σ H) : C8.tCut t u ⟨nx, rt, bk, ct⟩ σ H := ⟨Mid, h1, h2⟩
end
theorem same_new {H : Hp} {p : Addr} {o : HO} (h : H p = none) : Same H (upd H p o) := fun b u e => by rw [upd_ne (ne_of_none e h)]; exact e
theorem same_mk {H : Hp} {x dx : Addr} {o u : HO} (h1 : H x = none) (h2 : H dx = none) : Same H (upd (upd H dx o) x u) := fun b v e => by
  rw [upd_ne (ne_of_none e h1), upd_ne (ne_of_none e h2)]
  exact e
/-! ### facts of the top that the head tells as Bools -/
def excCB (K : PySem.W.Frag) (D : Addr) : Bool := [He.eqO (PySem.W.findIn K (.ref D) "__getattribute__") (some (some (.builtin "BaseException.__getattribute__"))), He.eqO (PySem.W.findIn K (.ref D) "__getattr__") (some none), decide (PySem.W.subIn K (.ref D) (.type "BaseException") = some true),
  PySem.W.hasDictIn K D, He.eqO (PySem.W.findIn K (.ref D) "__class__") (some (some (.builtin "object.__class__"))), He.eqO (PySem.W.specialIn K (.builtin "object.__class__") "__get__") (some (some (.builtin "getset_descriptor.__get__"))),
  decide (PySem.W.takesIn K (.builtin "object.__class__") = some true), decide (PySem.W.mroIn K D (.type "object") = some true)].all id
theorem all8 {b1 b2 b3 b4 b5 b6 b7 b8 : Bool} (h : [b1, b2, b3, b4, b5, b6, b7, b8].all id = true) : b1 = true ∧ b2 = true ∧ b3 = true ∧ b4 = true ∧ b5 = true ∧ b6 = true ∧ b7 = true ∧ b8 = true := by
  simpa using h
theorem excCB_ok {K : PySem.W.Frag} {D : Addr} (h : excCB K D = true) : ExcC K D := by
  obtain ⟨h1, h2, h3, h4, h5, h6, h7, h8⟩ := all8 h
  exact ⟨He.eqO_ok h1, He.eqO_ok h2, of_decide_eq_true h3, h4, He.eqO_ok h5, He.eqO_ok h6, of_decide_eq_true h7, of_decide_eq_true h8⟩
def isiCB (K : PySem.W.Frag) (D : Addr) : Bool := [He.eqO (PySem.W.findIn K (.ref D) "__class__") (some (some (.builtin "object.__class__"))), He.eqO (PySem.W.specialIn K (.builtin "object.__class__") "__get__") (some (some (.builtin "getset_descriptor.__get__"))),
  decide (PySem.W.takesIn K (.builtin "object.__class__") = some true), decide (PySem.W.mroIn K D (.type "object") = some true), true, true, true, true].all id
theorem isi_ins {K : PySem.W.Frag} {H : Hp} {a D dx : Addr} {fs : List (Str × V)} (h : isiCB K D = true) (c : Cls K D) (e : H a = some (.ins D dx fs)) : TyX K H (.ref a) (.ref D) := by
  obtain ⟨h1, h2, h3, h4, _⟩ := all8 h
  exact .base (.ins e c (He.eqO_ok h1) (He.eqO_ok h2) (of_decide_eq_true h3) (of_decide_eq_true h4))
theorem pss_given {X : Cx} {body : List Stmt} {t : TS} {P : Prop} (h : P → PSs X body t) : PSs X body (fun D σ H => P ∧ t D σ H) := ⟨fun pins s σ H D I q => (h q.1).run pins s σ H D I q.2⟩
theorem r_isi {K : PySem.W.Frag} {H : Hp} {Q : VK} {x c : V} {t u : Value} {b : Bool} (hx : TyX K H x t) (hc : ClsV c u) (e : PySem.W.kitOne K t u = some b) (h : Q (.bl b) H) : rIsi K [x, c] H Q := ⟨x, c, t, u, b, rfl, hc, hx, e, h⟩
/-! ### operators that a class of the program's own defines -/
section
variable {X : Cx} {CX : CXT} {n : Nat} {C g : Addr} {fd : FuncData} {ps : List Str} {sp : Sp} {E : XK}
def rBin (C : Addr) (sp : Sp) (E : XK) : R2 := fun x y H Q => ∃ a b dx dy fs gs, x = .ref a ∧ y = .ref b ∧ H a = some (.ins C dx fs) ∧ H b = some (.ins C dy gs) ∧ sp [.ref a, .ref b] H Q E
theorem back_of {R : Value → Shared → Prop} {z : V} {v : Value} {s' : Shared} (r : RelV z v) (h : R v s') : PySem.W.CmpBack R v s' := by
  cases z with
  | non => cases (show v = Value.none from r); exact h
  | bl b => cases (show v = Value.bool b from r); exact h
  | int i => obtain ⟨t, rfl⟩ := (show ∃ t, v = Value.int i t from r); exact h
  | str i => obtain ⟨t, rfl⟩ := (show ∃ t, v = Value.str i t from r); exact h
  | byt i => obtain ⟨t, rfl⟩ := (show ∃ t, v = Value.bytes i t from r); exact h
  | flt i => obtain ⟨t, rfl⟩ := (show ∃ t, v = Value.float i t from r); exact h
  | ref i => cases (show v = Value.ref i from r); exact h
  | ty i => cases (show v = Value.type i from r); exact h
theorem ins_inst {pins : List (Addr × Obj)} {σ : St} {H : Hp} {s : Shared} {a dx : Addr} {fs : List (Str × V)} (I : Inv X pins σ H s) (h : H a = some (.ins C dx fs)) : ∃ od, PySem.W.InstAt s.heap a (PySem.W.instObj C dx) C (some od) := by
  obtain ⟨mA, J, _⟩ := ins_get I.hok h
  obtain ⟨od, J, _⟩ := J.look
  exact ⟨od, J⟩
theorem op_bin {op : Operator} (first : PySem.W.selfFirst X.K C = true) (m : Meth X.K C (PySem.dunder op.info.2) g) (F : FnOk X.prog X.w X.K X.mg X.base CX n g fd ps sp) (bd : Binds X.K fd ps []) (room : Room n X.A) (pass : Passes CX X E) : OpR X (binaryOp op) (rBin C sp E) := by
  intro pins s σ H x y v u Q I rx ry h
  obtain ⟨a, b, dx, dy, fs, gs, rfl, rfl, ha, hb, q⟩ := h
  cases (show v = Value.ref a from rx)
  cases (show u = Value.ref b from ry)
  obtain ⟨od, J⟩ := ins_inst I ha
  obtain ⟨od', J'⟩ := ins_inst I hb
  obtain ⟨mF, hF⟩ := I.fr
  refine PySem.W.binop_K hF I.ok.mod.kin J J'.type first m.at_ m.fn ?_
  refine wpAny_mono (run_fn (vs := [.ref a, .ref b]) (us := [.ref a, .ref b]) F room bd .nil pass I (.cons rfl (.cons rfl .nil)) (by rw [List.append_nil]; exact q)) (fun w s' z => ?_) fun _ _ e => e
  obtain ⟨z', H', I', rz, qz⟩ := z
  exact back_of rz ⟨z', H', I', rz, qz⟩
def rUnO (C : Addr) (sp : Sp) (E : XK) : V → Hp → VK → Prop := fun x H Q => ∃ a dx fs, x = .ref a ∧ H a = some (.ins C dx fs) ∧ sp [.ref a] H Q E
theorem un_negO (m : Meth X.K C "__neg__" g) (F : FnOk X.prog X.w X.K X.mg X.base CX n g fd ps sp) (bd : Binds X.K fd ps []) (room : Room n X.A) (pass : Passes CX X E) : UnR X (unaryOp .USub) (rUnO C sp E) := by
  intro pins s σ H x v Q I rx h
  obtain ⟨a, dx, fs, rfl, ha, q⟩ := h
  cases (show v = Value.ref a from rx)
  obtain ⟨od, J⟩ := ins_inst I ha
  obtain ⟨mF, hF⟩ := I.fr
  exact PySem.W.ksp_neg hF I.ok.mod.kin J m.at_ m.fn (run_fn (vs := [.ref a]) (us := [.ref a]) F room bd .nil pass I (.cons rfl .nil) (by rw [List.append_nil]; exact q))
/-- == by an own __eq__, both answers -/
theorem op_eqO (m : Meth X.K C "__eq__" g) (F : FnOk X.prog X.w X.K X.mg X.base CX n g fd ps sp) (bd : Binds X.K fd ps []) (room : Room n X.A) (pass : Passes CX X E) : OpR X (compareOp .Eq) (rBin C sp E) := by
  intro pins s σ H x y v u Q I rx ry h
  obtain ⟨a, b, dx, dy, fs, gs, rfl, rfl, ha, hb, q⟩ := h
  cases (show v = Value.ref a from rx)
  cases (show u = Value.ref b from ry)
  obtain ⟨od, J⟩ := ins_inst I ha
  obtain ⟨od', J'⟩ := ins_inst I hb
  obtain ⟨mF, hF⟩ := I.fr
  show wpAny (model X.prog X.w) X.A (richCompare .Eq (.ref a) (.ref b)) (EP X pins σ Q) X.xe s
  refine PySem.W.cmp_K (op := .Eq) (tb := .ref C) room.units0 hF I.ok.mod.kin J J'.type (by simp [PySem.W.notFirst]) m.at_ m.fn ?_
  refine wpAny_mono (run_fn (vs := [.ref a, .ref b]) (us := [.ref a, .ref b]) F room bd .nil pass I (.cons rfl (.cons rfl .nil)) (by rw [List.append_nil]; exact q)) (fun w s' z => ?_) fun _ _ e => e
  obtain ⟨z', H', I', rz, qz⟩ := z
  exact back_of rz ⟨z', H', I', rz, qz⟩
end
/-! ### the rules with the written part by its letter -/
section
variable {X : Cx} {K : PySem.W.Frag} {e o : Expr} {f : Str} {pos pos' : Pos} {ta tv : TE} {value : Expr} {tg : Expr} {tl : TE}
theorem ix_listK (h : X.K = K) : IxR X (rIxL K) := by subst h; exact ix_list
theorem ix_tupK (h : X.K = K) : IxR X (rIxT K) := by subst h; exact ix_tup
theorem call_isiK' (h : X.K = K) : CallR X (.builtin "isinstance") (rIsi K) := by subst h; exact call_isi
theorem call_lenK (h : X.K = K) : CallR X (.builtin "len") (fun xs H Q => ∃ p ys, xs = [.ref p] ∧ (SqL K H p ys ∨ SqT K H p ys) ∧ Q (.int ys.length) H) := by subst h; exact call_len_seq
theorem call_listK (h : X.K = K) : CallR X (.type "list") (fun xs H Q => ∃ p ys, xs = [.ref p] ∧ (SqL K H p ys ∨ SqT K H p ys) ∧ ∀ l, H l = none → Q (.ref l) (upd H l (.lst ys))) := by subst h; exact call_list_of
theorem pe_fldK (h : X.K = K) (he : PE X e ta) (hb : attributeBase e f X.env (eval e X.env) = eval e X.env) : PE X (.Attribute e f pos) (tFld K ta f) := by subst h; exact pe_fld he hb
theorem ps_fldK (h : X.K = K) (ha : PE X o ta) (hv : PE X value tv) (hs : swapsWith value (some (.Attribute o f pos')) pos.line X.env = pure false) : PS X (.Assign [.Attribute o f pos'] value pos) (sFld K ta tv f) := by subst h; exact ps_fld ha hv hs
theorem pi_listK (h : X.K = K) (hl : PE X e tl) : PI X tg e (iList K tl) := by subst h; exact pi_list hl
theorem pi_tupK (h : X.K = K) (hl : PE X e tl) : PI X tg e (iTup K tl) := by subst h; exact pi_tup hl
theorem op_eqDK (h : X.K = K) (hu : X.A.units + 64 < cLine) : OpR X (compareOp .Eq) (rEqD K) := by subst h; exact op_eqD hu
theorem op_neDK (h : X.K = K) (hu : X.A.units + 64 < cLine) : OpR X (compareOp .NotEq) (rNeD K) := by subst h; exact op_neD hu
theorem op_inK (h : X.K = K) : OpR X (compareOp .In) (rIn K false) := by subst h; exact op_in_seq
theorem op_notInK (h : X.K = K) : OpR X (compareOp .NotIn) (rIn K true) := by subst h; exact op_notIn_seq
end
/-! ### a tuple of texts that the module holds -/
def strOf : Value → Option Str
  | .str x _ => some x
  | _ => none
def tupStrs (K : PySem.W.Frag) (a : Addr) (xs : List Str) : Bool := match K.lookup a with
  | some ⟨.type "tuple", _, .seq its _, _⟩ => decide (its.toList.map strOf = xs.map some)
  | _ => false
theorem vals_strs : ∀ (us : List Value) (xs : List Str), us.map strOf = xs.map some → Vals (xs.map V.str) us
  | [], [], _ => .nil
  | [], _ :: _, h => by cases h
  | _ :: _, [], h => by cases h
  | u :: us, x :: xs, h => by
    have h1 := (List.cons.inj h).1
    have h2 := (List.cons.inj h).2
    refine .cons ?_ (vals_strs us xs h2)
    cases u with
    | str y t => exact ⟨t, by rw [Option.some.inj h1]⟩
    | _ => cases h1
theorem tupStrs_ok {K : PySem.W.Frag} {H : Hp} {a : Addr} {xs : List Str} (h : tupStrs K a xs = true) (hl : xs.length ≤ 1000) : SqT K H a (xs.map V.str) := by
  unfold tupStrs at h
  split at h
  · rename_i od its n sl hk
    have e := of_decide_eq_true h
    have l := congrArg List.length e
    rw [List.length_map, List.length_map, Array.length_toList] at l
    exact .inr ⟨_, its, n, hk, rfl, rfl, by rw [l, sizeLine_eq]; omega, vals_strs _ _ e⟩
  · cases h
/-! ### an own exception whose __init__ calls its base's with a text, and keeps one field -/
def lwB (K : PySem.W.Frag) (L : Addr) : Bool := He.eqO (PySem.W.specialIn K (.ref L) "__getattribute__") (some (some (.builtin "type.__getattribute__"))) && (PySem.W.readsIn K L (.type "type") &&
  (match PySem.W.findCls K (.ref L) (.type "type") "__init__" with | some (.val v) => decide (v = .builtin "ValueError.__init__") | _ => false))
theorem lwB_ok {K : PySem.W.Frag} {L : Addr} (h : lwB K L = true) : PySem.W.specialIn K (.ref L) "__getattribute__" = some (some (.builtin "type.__getattribute__")) ∧ PySem.W.readsIn K L (.type "type") = true ∧
    PySem.W.findCls K (.ref L) (.type "type") "__init__" = some (.val (.builtin "ValueError.__init__")) := by
  unfold lwB at h
  obtain ⟨h1, h⟩ := Bool.and_eq_true_iff.mp h
  obtain ⟨h2, h3⟩ := Bool.and_eq_true_iff.mp h
  refine ⟨He.eqO_ok h1, h2, ?_⟩
  split at h3
  · rename_i v e
    rw [e, of_decide_eq_true h3]
  · cases h3
def oexB (K : PySem.W.Frag) (C fI : Addr) : Bool := [(match K.lookup C with
    | some ⟨.type "type", _, .cls cd, sl⟩ => (match cd.mro, sl.toList with
      | .ref D :: bm, [_, _, _, _, some (.builtin n), _] => [decide (D = C), decide (n = "ValueError.__new__"), !cd.hasDel, cd.hasDict, PySem.HandSPX.refsVE bm].all id
      | _, _ => false)
    | _ => false),
  He.eqO (PySem.W.findIn K (.ref C) "__setattr__") (some (some (.builtin "object.__setattr__"))), decide (PySem.W.subIn K (.ref C) (.type "BaseException") = some true), decide (PySem.W.typeIn K (.ref C) = some (.type "type")), PySem.W.keepIn K (.ref C),
  He.eqO (PySem.W.findIn K (.ref C) "__init__") (some (some (.ref fI))), decide (PySem.W.typeIn K (.ref fI) = some (.type "function")), true].all id
theorem oexB_ok {K : PySem.W.Frag} {C fI : Addr} (h : oexB K C fI = true) : OexC K C ∧ PySem.W.findIn K (.ref C) "__init__" = some (some (.ref fI)) ∧ PySem.W.typeIn K (.ref fI) = some (.type "function") := by
  obtain ⟨h1, h2, h3, h4, h5, h6, h7, _⟩ := all8 h
  refine ⟨⟨?_, He.eqO_ok h2, of_decide_eq_true h3, of_decide_eq_true h4, h5⟩, He.eqO_ok h6, of_decide_eq_true h7⟩
  split at h1
  · rename_i dd cd sl ho
    split at h1
    · rename_i D bm k0 k1 k2 k3 n k5 hm hs
      simp only [List.all_cons, List.all_nil, id_eq, Bool.and_true, Bool.and_eq_true, decide_eq_true_eq, Bool.not_eq_true'] at h1
      obtain ⟨rfl, rfl, hdel, hdct, hv⟩ := h1
      obtain ⟨nm, bs, mro, ns, qn, hd, sn, sub, ab, col, del⟩ := cd
      dsimp only at hm hdel hdct
      subst hm hdel hdct
      have hsl : sl = #[k0, k1, k2, k3, some (.builtin "ValueError.__new__"), k5] := by
        obtain ⟨l⟩ := sl
        simp only at hs
        rw [hs]
      subst hsl
      exact ⟨nm, qn, ns, bs, bm, sn, sub, ab, col, dd, k0, k1, k2, k3, k5, ho, hv⟩
    · cases h1
  · cases h1
section
variable {X : Cx} {e : Expr} {es : List Expr} {ta : TA} {x : Str} {L : Addr} {p1 p2 pos : Pos}
theorem pe_lwinit {pl : Sem Bool} (hB : lwB X.K L = true) (hg : Gl X x) (hm : X.mg x = some (.ref L)) (ha : PA X (e :: es) ta) (hdb : (x == ("__debug__" : Str)) = false := by decide)
    (hc : eval (.Call (.Attribute (.Name x p1) "__init__" p2) (e :: es) [] pos) X.env = (do
      let ov ← eval (.Name x p1) X.env
      standAt p2.atName
      let (f, first) ← holding [ov] (getMethod ov "__init__" pl)
      callWith pos f first (backTo pos (starEach (e :: es) X.env)) (backToKw pos (keywordEach [] X.env))) := by rfl)
    (he : starEach (e :: es) X.env = (false, eval e X.env) :: starEach es X.env := by rfl) (hpl : (backTo pos (starEach es X.env)).any (·.1) = false := by rfl) :
    PE X (.Call (.Attribute (.Name x p1) "__init__" p2) (e :: es) [] pos) (tVeI X.K ta) := by
  refine ⟨fun pins s σ H Q I h => ?_⟩
  obtain ⟨b1, b2, b3⟩ := lwB_ok hB
  refine PySem.W.methodCall_KW (ld_glob I hg hm ?_ hdb) hc
  obtain ⟨m, fr⟩ := I.fr
  refine PySem.W.method_of_cls fr I.ok.mod.kin b1 (PySem.W.cls_value (I.ok.mod.kin.keeps fr.keep) b2 b3 (by decide +kernel) ?_)
  show wpAny _ _ (callWith pos (Value.builtin "ValueError.__init__") [] (backTo pos (starEach (e :: es) X.env)) []) _ _ _
  refine PyProof.Rows.callWith_method1 (thn (ha.run pos pins _ σ H _ (I.tok _) h) fun us s1 hu => ?_) he hpl
  obtain ⟨vs, H1, I1, r1, a, C, ws, ev, hl, T, ea, q⟩ := hu
  subst ev
  cases r1 with
  | @cons _ u0 _ ur ra rw' =>
    obtain rfl : u0 = Value.ref a := ra
    exact oinit_ok T I1 ea (by rw [← Paired.length rw', sizeLine_eq]; omega) fun s' J => ⟨.non, H1, J, rfl, q⟩
end
/-- C(i) leaves behind: the class, and its dict with the one field -/
theorem upd_raise {H : Hp} {a d dx : Addr} {o1 o2 o3 o4 : HO} (ha : H a = none) (hd : H d = none) (ne : dx ≠ a) (e : d = dx) : upd (del (upd (upd (upd H a o1) dx o2) a o3) a) d o4 = upd H d o4 := by
  subst e
  funext b
  by_cases h1 : b = d
  · rw [h1, upd_same, upd_same]
  · rw [upd_ne h1, upd_ne h1]
    by_cases h2 : b = a
    · rw [h2, del_same, ha]
    · rw [del_ne h2, upd_ne h2, upd_ne h1, upd_ne h2]
def spExc (K : PySem.W.Frag) (C : Addr) (f : Str) (ok : V → Prop) : Sp := fun vs H Q _ => ∃ (a : Addr) (v : V), vs = [.ref a, v] ∧ H a = some (exo a C none) ∧ ok v ∧ ∀ dx, H dx = none → dx ≠ a → Q .non (upd (upd H dx (exd dx [(f, v)])) a (exo a C (some dx)))
theorem exd_inj {d e : Addr} {fs gs : List (Str × V)} (h : exd d fs = exd d gs) : True := trivial
/-- raise C(v), C's __init__ keeping spExc -/
theorem r_raiseE {K : PySem.W.Frag} {C : Addr} {f : Str} {ok : V → Prop} {t : TA} {σ : St} {H : Hp} {Q : XK}
    (h : t σ H fun vs H1 => ∃ v, vs = [v] ∧ ok v ∧ ∀ d, H1 d = none → Q (.ref C) (some d) (upd H1 d (.xd [(f, v)]))) (mono : ∀ P P' : List V → Hp → Prop, (∀ vs H1, P vs H1 → P' vs H1) → t σ H P → t σ H P') : tMkO C (spExc K C f ok) [] t σ H Q := by
  refine mono _ _ (fun vs H1 q => ?_) h
  obtain ⟨v, rfl, hv, k⟩ := q
  refine ⟨by show 1 ≤ 1000; decide, fun a ha => ⟨a, v, rfl, upd_same, hv, fun dx hdx ne => ⟨rfl, dx, [(f, v)], upd_same, by rw [upd_ne ne, upd_same], ?_, ?_⟩⟩⟩
  · rw [upd_ne ne] at hdx
    exact hdx
  · have hd : H1 dx = none := by
      rw [upd_ne ne] at hdx
      exact hdx
    rw [upd_raise ha hd ne rfl]
    exact k dx hd
theorem op_mul_str {X : Cx} : OpR X (binaryOp .Mult) (fun x y H Q => ∃ z n, x = .str z ∧ y = .int n ∧ MulOk z n ∧ Q (.str (Txt.mul z n)) H) := by
  intro pins s σ H x y v u Q I rx ry h
  obtain ⟨z, n, rfl, rfl, hz, q⟩ := h
  obtain ⟨t, rfl⟩ := rx
  obtain ⟨t', rfl⟩ := ry
  exact PySem.SB.mul hz fun t' tk => ⟨.str (Txt.mul z n), H, I.tok _, ⟨_, rfl⟩, q⟩
section
variable {σ : St} {H : Hp} {g : TG} {tb : TS} {nx : St → Hp → Prop} {rt : VK} {bk ct : St → Hp → Prop} {tl : TE} {K : PySem.W.Frag} {a : Addr} {xs : List V} {k : Nat}
theorem r_iTup {R : It → Hp → Prop} (h : tl σ H fun x H1 => ∃ a, x = .ref a ∧ (∃ xs, SqT K H1 a xs) ∧ R (Itt K a) H1) : iTup K tl σ H R := h
theorem r_tupI {P : It → Prop} (hs : SqT K H a xs) (h : P (Itt K a)) : ∃ b, V.ref a = .ref b ∧ (∃ xs, SqT K H b xs) ∧ P (Itt K b) := ⟨a, rfl, ⟨xs, hs⟩, h⟩
theorem for_tpl (Pv : Nat → St → Hp → Prop) (h0 : Pv 0 σ H) (hl : ∀ i σ H, i ≤ xs.length → Pv i σ H → SqT K H a xs) (hs : ∀ i x σ H, xs[i]? = some x → Pv i σ H → tb ⟨Pv (i + 1), rt, nx, Pv (i + 1)⟩ (σ.set k (some x)) H) (hd : ∀ σ H, Pv xs.length σ H → nx σ H) :
    forR (Itt K a) (gName k) tb ⟨nx, rt, bk, ct⟩ σ H := for_tup (D := ⟨nx, rt, bk, ct⟩) Pv h0 hl hs hd
theorem r_tXf {x : V} {cls : Value} {d : Option Addr} {C : Addr} {f : Str} {te : TE} {Q : VK} (h : te σ H fun x H1 => x = .ref a ∧ cls = .ref C ∧ ∃ (dd : Addr) (fs : List (Str × V)) (v : V), d = some dd ∧ H1 dd = some (.xd fs) ∧ fs.lookup f = some v ∧ Q v H1) : tXf a cls d C f te σ H Q := h
end
/-! ### isinstance of a caught error that has a dict of its own -/
namespace Xd
open PySem.W PySem.Calls
section
variable {prog : Program} {w : World} {A : Around} {E : Value → Shared → Prop} {s : Shared} {K : Frag} {x D : Addr} {ox : Obj}
theorem find_cls {od : Option Obj} (C : ExcC K D) : findObj K D od "__class__" = some (.bind (.builtin "getset_descriptor.__get__") (.builtin "object.__class__")) := by
  obtain ⟨cd, hc, _⟩ := any_some C.hd
  unfold findObj
  rw [hc, Option.bind_some, C.ha, Option.bind_some]
  simp [C.hn, C.ht]
theorem cls_of {Q : Option Value → Shared → Prop} {od : Option Obj} (C : ExcC K D) (X : K.In s.heap) (I : PySem.W.InstAt s.heap x ox D od) (h : Q (some (.ref D)) { s with toks := s.toks + 1 }) : wpAny (model prog w) A (getAttr? (.ref x) "__class__") Q E s := by
  have hf := find_cls (od := od) C
  obtain ⟨hp, g, d, t, os⟩ := s
  have T0 := I.type (M := model prog w)
  have T1 := looks_findIn (M := model prog w) X C.hg
  have T2 := looks_findIn (M := model prog w) X C.hk
  have T3 := looks_find (M := model prog w) X I hf
  have sub : Looks (model prog w) hp (isInstance (.ref x) (.type "BaseException")) true := T0.andThen (looks_subIn X C.hs)
  have n2 : (Value.builtin "BaseException.__getattribute__" == Value.builtin "object.__getattribute__") = false := by decide +kernel
  unfold getAttr? getAttrBy? getAttrBy
  refine wpAny_bind (wpAny_mkText (wpAny_bind (wpAny_attempt (wpAny_holding (wpAny_bind (T0.at (wpAny_bind (T1.at ?_))))))))
  show wpAny _ _ (if (onTheHeap (Value.ref D) && Value.builtin "BaseException.__getattribute__" == Value.builtin "object.__getattribute__") = true then _ else _) _ _ _
  rw [n2, Bool.and_false, if_neg Bool.false_ne_true]
  (unfold getAttrByItsOwn hookBefore; refine wpAny_bind ?_; rw [if_pos (show onTheHeap (Value.ref D) = true from rfl)])
  refine T2.at (wpAny_bind (wpAny_attempt (wpAny_holding ?_)))
  (unfold callGetattribute; rw [show (false && onTheHeap (Value.builtin "BaseException.__getattribute__")) = false from rfl, if_neg Bool.false_ne_true])
  (unfold boundAndCalled; rw [PySem.F.excAttr_ValueError.ga.bind (.ref x)])
  refine wpAny_bind (wpAny_pure ?_)
  show wpAny _ _ (call (.builtin "BaseException.__getattribute__") [.ref x, .str "__class__" t]) _ _ _
  refine wpAny_call (codeAny_call_builtin PySem.F.excAttr_ValueError.ga.plain PySem.F.entry_bexc_ga (@check_slot (model prog w) _ _ ⟨hp, g, d, t + 1, os⟩ "BaseException.__getattribute__" "BaseException" "__getattribute__" (.ref x) [.str "__class__" t] [] _ (by decide +kernel) (by decide +kernel) sub (PySem.F.args_bexc_ga (.ref x) (.str "__class__" t)) ?_))
  (unfold Builtin.«object.__getattribute__»; refine wpAny_bind (wpAny_of_eq (a := ((Value.ref x : Value), [Value.str "__class__" t])) (by first | rfl | (simp only [slotArgs]; rfl)) ?_))
  refine wpAny_bind (wpAny_pure (wpAny_bind (T0.at (wpAny_bind (T3.at ?_)))))
  show wpAny _ _ (holding [Value.builtin "object.__class__"] (call (.builtin "getset_descriptor.__get__") [.builtin "object.__class__", .ref x, .ref D]) >>= ret) _ _ _
  refine wpAny_bind (wpAny_holding (wpAny_call (class_get (s := ⟨hp, g, d, t + 1, os⟩) (ox := ox) (od := od) X I C.hm (wpAny_pure ?_))))
  (show wpAny _ _ (handedOut (.ref D)) _ _ _; rw [handedOut_of (v := .ref D) rfl])
  first
    | exact wpAny_pure (wpAny_pure h)
    | exact wpAny_pure (wpAny_bind (wpAny_pure (wpAny_pure h)))
theorem not_cls {h : Heap} {o : Obj} {D' : Addr} (hd : hasDictIn K D = true) (X : K.In h) (e : h.get? D' = some o) (hs : ∀ cd, o.data ≠ .cls cd) : D ≠ D' := fun z => by
  obtain ⟨cdD, hcD, _⟩ := any_some hd
  unfold clsIn at hcD
  split at hcD
  · rename_i c' d' cd' sl' ho
    rw [← z, X _ _ ho] at e
    cases e
    exact hs cd' rfl
  · cases hcD
theorem kit (C : ExcC K D) : KitX K (.ref x) (.ref D) (fun h => ∃ od, PySem.W.InstAt h x ox D od) where
  ty := fun M h X I => by
    obtain ⟨od, I⟩ := I
    exact I.type
  it := fun M h X _ => (handS_kitx_exc (x := x) (ox := ox) C.hg C.hk C.hs C.hd C.ha C.hn C.ht C.hm).it M h X |> fun f => by
    obtain ⟨cdD, hcD, _⟩ := any_some C.hd
    unfold clsIn at hcD
    split at hcD
    · rename_i c' d' cd' sl' ho
      intro A' Q' E' s' k q
      (unfold isType loadHead; exact wpAny_bind (wpAny_loadPart (k _ _ (X _ _ ho)) (wpAny_pure q)))
    · cases hcD
  ne := fun h tp dd its n sl X htp => Bool.eq_false_iff.mpr fun q => not_cls C.hd X htp (fun cd z => by cases z) (Value.ref.inj (beq_iff_eq.mp q))
  ca := fun X I k => by
    obtain ⟨od, I⟩ := I
    exact cls_of C X I k
end
end Xd
def rIsD (K : PySem.W.Frag) (D a : Addr) (d : Option Addr) : List V → Hp → VK → Prop := fun xs H Q => ∃ (c : V) (cv : Value) (b : Bool) (dd : Addr) (fs : List (Str × V)), xs = [.ref a, c] ∧ (∀ u, RelV c u → u = cv) ∧ PySem.W.kitOne K (.ref D) cv = some b ∧ d = some dd ∧ H dd = some (.xd fs) ∧ Q (.bl b) H
theorem call_isD {X : Cx} {a D : Addr} {d : Option Addr} {oe : Obj} {pn : List (Addr × Obj)} {cls : Value} (ec : cls = .ref D) (C : ExcC X.K D) (hz : Zc cls d oe) (hf : ∃ vs, oe.data = .fields vs) : CallR (X.suite a ((a, oe) :: pn)) (.builtin "isinstance") (rIsD X.K D a d) := by
  intro pins s σ H xs us Q I r h
  subst ec
  obtain ⟨c, cv, b, dd, fs, rfl, hcv, e, rfl, hdd, q⟩ := h
  cases r with
  | cons rx rr =>
    cases rr with
    | cons rt rr =>
      cases rr
      cases rx
      obtain rfl := hcv _ rt
      obtain ⟨hget, _⟩ := I.pin (a, oe) (List.mem_append.mpr (.inl List.mem_cons_self))
      obtain ⟨vs, hv⟩ := hf
      obtain ⟨od, hod⟩ := objOk_get (I.hok dd _ hdd)
      have J : PySem.W.InstAt s.heap a oe D (some od) := by
        obtain ⟨oc, ob, oda, osl⟩ := oe
        obtain ⟨h1, h2⟩ := hz
        (dsimp only at h1 h2 hv; subst h1 h2 hv)
        exact ⟨hget, rfl, rfl, hod⟩
      exact PySem.W.kia_one (Xd.kit C) I.kIn ⟨_, J⟩ e (fun z => nomatch z) fun tk => ⟨.bl b, H, I.kept (t' := tk) fun _ _ z => z, rfl, q⟩
/-! ### one step, at the goal's head -/
local macro_rules | `(tactic| walk_at "go1") => `(tactic| first
  | (with_reducible apply r_seq) | (with_reducible apply r_set) | (with_reducible apply r_if) | (with_reducible apply r_ret) | (with_reducible apply r_next)
  | (with_reducible apply r_op) | (with_reducible apply r_c) | ((with_reducible apply r_var); exact rfl) | (with_reducible apply r_consA) | (with_reducible apply r_nilA)
  | (with_reducible apply r_call) | (with_reducible apply r_callS) | (with_reducible apply r_CB) | (with_reducible apply r_I0) | (with_reducible apply r_test) | (with_reducible apply r_bl)
  | (with_reducible apply r_B) | (with_reducible apply r_un) | (with_reducible apply r_U) | ((with_reducible apply r_eq); exact rfl) | ((with_reducible apply r_ne); exact rfl)
  | (with_reducible apply r_and) | (with_reducible apply r_or) | (with_reducible apply r_not) | (with_reducible apply r_andV) | (with_reducible apply r_orV) | (with_reducible apply r_notV) | (with_reducible apply r_ifE)
  | (with_reducible apply r_asg) | (with_reducible apply r_sub) | (with_reducible apply r_par) | (with_reducible apply r_drop) | (with_reducible apply r_brk) | (with_reducible apply r_cont)
  | (with_reducible apply r_fld) | (with_reducible apply r_tup) | (with_reducible apply r_lst))
local macro_rules | `(tactic| walk_at "go") => `(tactic| repeat walk_at "go1")
local macro_rules | `(tactic| walk_at "go1") => `(tactic| first | (with_reducible apply r_make) | (with_reducible apply r_makeS))
local macro_rules | `(tactic| walk_at "go1") => `(tactic| first | (with_reducible apply r_for) | (with_reducible apply r_iRng1) | (with_reducible apply r_iList))
local macro_rules | `(tactic| walk_at "go1") => `(tactic| first | ((with_reducible apply r_ixL); exact SqL.of upd_same; exact rfl) | ((with_reducible apply r_ixT); exact SqT.of upd_same; exact rfl))
local macro_rules | `(tactic| walk_at "go2") => `(tactic| first | (refine Or.inl ⟨_, rfl, ?_⟩) | (refine ⟨_, rfl, ?_⟩) | (refine ⟨_, _, rfl, ?_⟩) | (refine ⟨_, _, rfl, rfl, ?_⟩))
local macro_rules | `(tactic| walk_at "go") => `(tactic| repeat first | walk_at "go1" | walk_at "go2")
local macro_rules | `(tactic| walk_at "go1") => `(tactic| ((with_reducible apply r_setL); exact upd_same; exact rfl))
local macro_rules | `(tactic| walk_at "go2") => `(tactic| (refine And.intro (by first | omega | (dsimp only; omega) | decide) ?_))
local macro_rules | `(tactic| walk_at "go1") => `(tactic| (with_reducible apply r_sfld))
local macro_rules | `(tactic| walk_at "go2") => `(tactic| (refine And.intro (show CPow _ _ from ⟨by decide, by decide, by decide⟩) ?_))
local macro_rules | `(tactic| walk_at "go2") => `(tactic| (refine And.intro (by assumption) ?_))
local macro_rules | `(tactic| walk_at "go1") => `(tactic| first | (with_reducible apply ite_nt) | (with_reducible apply ite_nf) | (with_reducible apply iteT) | (with_reducible apply iteF))
/-! ### the text by places -/
def top (i : Nat) : Stmt := PySem.Challenge.pw_linkwork_k21_bad_tokens.main.body.getD i (.Pass ⟨0, 0, 0, 0⟩)
abbrev s_BadText___init__ : Stmt := inClass (top 2) 0
abbrev s_is_letter : Stmt := top 4
abbrev s_is_digit : Stmt := top 5
abbrev s_tokens : Stmt := top 12
abbrev s_tokens_until : Stmt := top 13
abbrev s__next_start : Stmt := top 14
abbrev s__end_of_token : Stmt := top 15
abbrev s__end_of_word : Stmt := top 16
abbrev s__end_of_number : Stmt := top 17
abbrev s__end_of_digits : Stmt := top 18
abbrev s__kind : Stmt := top 19
abbrev s__law_stream : Stmt := top 21
abbrev s__law_draw : Stmt := top 22
abbrev s__law_keywords : Stmt := top 23
abbrev s__law_symbol : Stmt := top 24
abbrev s__law_run_end : Stmt := top 25
abbrev s__law_number_end : Stmt := top 26
abbrev s__law_lex : Stmt := top 27
abbrev s__law_piece : Stmt := top 28
abbrev s__law_told : Stmt := top 29
abbrev s_law : Stmt := top 30
/-! ### the head's facts -/
def d_BadText___init__ : He.DefD := ⟨(("BadText" : Str), some ("__init__" : Str)), ("__init__" : Str), ("BadText.__init__" : Str), defArgs s_BadText___init__, defBody s_BadText___init__, defScope s_BadText___init__, [], []⟩
def d_is_letter : He.DefD := ⟨(("is_letter" : Str), none), ("is_letter" : Str), ("is_letter" : Str), defArgs s_is_letter, defBody s_is_letter, defScope s_is_letter, [], []⟩
def d_is_digit : He.DefD := ⟨(("is_digit" : Str), none), ("is_digit" : Str), ("is_digit" : Str), defArgs s_is_digit, defBody s_is_digit, defScope s_is_digit, [], []⟩
def d_tokens : He.DefD := ⟨(("tokens" : Str), none), ("tokens" : Str), ("tokens" : Str), defArgs s_tokens, defBody s_tokens, defScope s_tokens, [], []⟩
def d_tokens_until : He.DefD := ⟨(("tokens_until" : Str), none), ("tokens_until" : Str), ("tokens_until" : Str), defArgs s_tokens_until, defBody s_tokens_until, defScope s_tokens_until, [], []⟩
def d__next_start : He.DefD := ⟨(("_next_start" : Str), none), ("_next_start" : Str), ("_next_start" : Str), defArgs s__next_start, defBody s__next_start, defScope s__next_start, [], []⟩
def d__end_of_token : He.DefD := ⟨(("_end_of_token" : Str), none), ("_end_of_token" : Str), ("_end_of_token" : Str), defArgs s__end_of_token, defBody s__end_of_token, defScope s__end_of_token, [], []⟩
def d__end_of_word : He.DefD := ⟨(("_end_of_word" : Str), none), ("_end_of_word" : Str), ("_end_of_word" : Str), defArgs s__end_of_word, defBody s__end_of_word, defScope s__end_of_word, [], []⟩
def d__end_of_number : He.DefD := ⟨(("_end_of_number" : Str), none), ("_end_of_number" : Str), ("_end_of_number" : Str), defArgs s__end_of_number, defBody s__end_of_number, defScope s__end_of_number, [], []⟩
def d__end_of_digits : He.DefD := ⟨(("_end_of_digits" : Str), none), ("_end_of_digits" : Str), ("_end_of_digits" : Str), defArgs s__end_of_digits, defBody s__end_of_digits, defScope s__end_of_digits, [], []⟩
def d__kind : He.DefD := ⟨(("_kind" : Str), none), ("_kind" : Str), ("_kind" : Str), defArgs s__kind, defBody s__kind, defScope s__kind, [], []⟩
def d__law_stream : He.DefD := ⟨(("_law_stream" : Str), none), ("_law_stream" : Str), ("_law_stream" : Str), defArgs s__law_stream, defBody s__law_stream, defScope s__law_stream, [], []⟩
def d__law_draw : He.DefD := ⟨(("_law_draw" : Str), none), ("_law_draw" : Str), ("_law_draw" : Str), defArgs s__law_draw, defBody s__law_draw, defScope s__law_draw, [], []⟩
def d__law_keywords : He.DefD := ⟨(("_law_keywords" : Str), none), ("_law_keywords" : Str), ("_law_keywords" : Str), defArgs s__law_keywords, defBody s__law_keywords, defScope s__law_keywords, [], []⟩
def d__law_symbol : He.DefD := ⟨(("_law_symbol" : Str), none), ("_law_symbol" : Str), ("_law_symbol" : Str), defArgs s__law_symbol, defBody s__law_symbol, defScope s__law_symbol, [], []⟩
def d__law_run_end : He.DefD := ⟨(("_law_run_end" : Str), none), ("_law_run_end" : Str), ("_law_run_end" : Str), defArgs s__law_run_end, defBody s__law_run_end, defScope s__law_run_end, [], []⟩
def d__law_number_end : He.DefD := ⟨(("_law_number_end" : Str), none), ("_law_number_end" : Str), ("_law_number_end" : Str), defArgs s__law_number_end, defBody s__law_number_end, defScope s__law_number_end, [], []⟩
def d__law_lex : He.DefD := ⟨(("_law_lex" : Str), none), ("_law_lex" : Str), ("_law_lex" : Str), defArgs s__law_lex, defBody s__law_lex, defScope s__law_lex, [], []⟩
def d__law_piece : He.DefD := ⟨(("_law_piece" : Str), none), ("_law_piece" : Str), ("_law_piece" : Str), defArgs s__law_piece, defBody s__law_piece, defScope s__law_piece, [], []⟩
def d__law_told : He.DefD := ⟨(("_law_told" : Str), none), ("_law_told" : Str), ("_law_told" : Str), defArgs s__law_told, defBody s__law_told, defScope s__law_told, [], []⟩
def d_law : He.DefD := ⟨(("law" : Str), none), ("law" : Str), ("law" : Str), defArgs s_law, defBody s_law, defScope s_law, [], []⟩
def fnL : List He.DefD := [d_BadText___init__, d_is_letter, d_is_digit, d_tokens, d_tokens_until, d__next_start, d__end_of_token, d__end_of_word, d__end_of_number, d__end_of_digits, d__kind, d__law_stream, d__law_draw, d__law_keywords, d__law_symbol, d__law_run_end, d__law_number_end, d__law_lex, d__law_piece, d__law_told, d_law]
def faL : List He.Fa := [.glo ("is_letter" : Str), .glo ("is_digit" : Str), .glo ("tokens" : Str), .glo ("tokens_until" : Str), .glo ("_next_start" : Str), .glo ("_end_of_token" : Str), .glo ("_end_of_word" : Str), .glo ("_end_of_number" : Str), .glo ("_end_of_digits" : Str), .glo ("_kind" : Str), .glo ("_law_stream" : Str), .glo ("_law_draw" : Str), .glo ("_law_keywords" : Str), .glo ("_law_symbol" : Str), .glo ("_law_run_end" : Str), .glo ("_law_number_end" : Str), .glo ("_law_lex" : Str), .glo ("_law_piece" : Str), .glo ("_law_told" : Str), .glo ("law" : Str), .glo ("LinkworkError" : Str), .glo ("BadText" : Str), .free ("ValueError" : Str), .free ("abs" : Str), .free ("int" : Str), .free ("isinstance" : Str), .free ("len" : Str), .free ("list" : Str), .free ("max" : Str), .free ("range" : Str), .int ("MOST_LETTERS" : Str) (20), .int ("MOST_DIGITS" : Str) (15), .glo ("KEYWORDS" : Str), .glo ("LONG_SYMBOLS" : Str), .str ("SYMBOLS" : Str) ("()[]{},;.=<>+-*/:" : Str), .exc ("LinkworkError" : Str), .exm ("BadText" : Str) ("BadText" : Str) true]
def ex_lw_LinkworkError (K : PySem.W.Frag) : Bool := lwB K (He.ga K ("LinkworkError" : Str))
def ex_excC_LinkworkError (K : PySem.W.Frag) : Bool := excCB K (He.ga K ("LinkworkError" : Str))
def ex_excC_BadText (K : PySem.W.Frag) : Bool := excCB K (He.ga K ("BadText" : Str))
def ex_oex_BadText (K : PySem.W.Frag) : Bool := oexB K (He.ga K ("BadText" : Str)) (He.ma K (He.ga K ("BadText" : Str)) "__init__")
def ex_xf_BadText_at (K : PySem.W.Frag) : Bool := He.eqO (PySem.W.findIn K (.ref (He.ga K ("BadText" : Str))) ("at" : Str)) (some none)
def ex_xfr_BadText (K : PySem.W.Frag) : Bool := xfB K (He.ga K ("BadText" : Str))
def ex_t_KEYWORDS (K : PySem.W.Frag) : Bool := tupStrs K (He.ga K ("KEYWORDS" : Str)) [("and" : Str), ("connect" : Str), ("connector" : Str), ("der" : Str), ("discrete" : Str), ("else" : Str), ("end" : Str), ("equation" : Str), ("extends" : Str), ("false" : Str), ("flow" : Str), ("for" : Str), ("if" : Str), ("in" : Str), ("initial" : Str), ("input" : Str), ("loop" : Str), ("model" : Str), ("not" : Str), ("or" : Str), ("parameter" : Str), ("pre" : Str), ("reset" : Str), ("sample" : Str), ("size" : Str), ("sum" : Str), ("then" : Str), ("time" : Str), ("true" : Str), ("when" : Str)]
def ex_t_LONG_SYMBOLS (K : PySem.W.Frag) : Bool := tupStrs K (He.ga K ("LONG_SYMBOLS" : Str)) [("==" : Str), ("<=" : Str), (">=" : Str), ("<>" : Str)]
def ex_kit_BadText_LinkworkError (K : PySem.W.Frag) : Bool := decide (PySem.W.kitOne K (.ref (He.ga K ("BadText" : Str))) (.ref (He.ga K ("LinkworkError" : Str))) = some true)
def ex_kit_BadText_t_ValueError (K : PySem.W.Frag) : Bool := decide (PySem.W.kitOne K (.ref (He.ga K ("BadText" : Str))) (.type "ValueError") = some true)
def exL : List (PySem.W.Frag → Bool) := [ex_lw_LinkworkError, ex_excC_LinkworkError, ex_excC_BadText, ex_oex_BadText, ex_xf_BadText_at, ex_xfr_BadText, ex_t_KEYWORDS, ex_t_LONG_SYMBOLS, ex_kit_BadText_LinkworkError, ex_kit_BadText_t_ValueError]
def exB (K : PySem.W.Frag) : Bool := exL.all fun f => f K
abbrev R : PySem.W.OpenRow := PySem.W.OpenLaw.row PySem.Challenge.rw_linkwork_k21_bad_tokens
abbrev hk : PySem.W.Hook := hookS 5 faL fnL exB
def ob (s : PySem.W.SharedT) : AlS := obsS 5 faL fnL exB (HeadRun.getT s)
theorem ob_eq (s : PySem.W.SharedT) : ob s = hk.obs s.abs := obsS_eq (HeadRun.getT_eq s)
def looseL : List PySem.Str := [("__name__" : Str), ("LinkworkError" : Str), ("BadText" : Str), ("is_letter" : Str), ("is_digit" : Str), ("MOST_LETTERS" : Str), ("MOST_DIGITS" : Str), ("KEYWORDS" : Str), ("LONG_SYMBOLS" : Str), ("SYMBOLS" : Str), ("tokens" : Str), ("tokens_until" : Str), ("_next_start" : Str), ("_end_of_token" : Str), ("_end_of_word" : Str), ("_end_of_number" : Str), ("_end_of_digits" : Str), ("_kind" : Str), ("_law_stream" : Str), ("_law_draw" : Str), ("_law_keywords" : Str), ("_law_symbol" : Str), ("_law_run_end" : Str), ("_law_number_end" : Str), ("_law_lex" : Str), ("_law_piece" : Str), ("_law_told" : Str)]
abbrev qv : Program := PySem.W.view R.prog [30]
theorem run (w : World) : HeadRun.RunEq R qv hk ob 4000 looseL w := by
  intro os
  kernel_rfl
/-! ### the facts by names -/
def Top (w : World) (K : PySem.W.Frag) (mg : Str → Option Value) : Prop := ∃ h : Heap, K.In h ∧ h.Ns mainGlobals mg ∧ SaysS faL fnL exB K
noncomputable def fdOf (K : PySem.W.Frag) (d : He.DefD) : FuncData := @Classical.epsilon FuncData ⟨PySem.W.fnOf d.name d.qual d.params d.body d.scope .none .none .none .none none .none .none⟩ fun fd => FunD K d.name d.qual d.params d.body d.scope (d.dvs K) (d.kws K) (He.fAd K d.at_) fd
section
variable {w : World} {K : PySem.W.Frag} {mg : Str → Option Value}
theorem Top.fun_ (T : Top w K mg) (i : Nat) {d : He.DefD} (h : fnL[i]? = some d) : FunD K d.name d.qual d.params d.body d.scope (d.dvs K) (d.kws K) (He.fAd K d.at_) (fdOf K d) := by
  obtain ⟨_, _, _, c⟩ := T
  exact Classical.epsilon_spec (c.d.def_ i h)
theorem Top.fact (T : Top w K mg) (i : Nat) {f : He.Fa} (h : faL[i]? = some f) : f.ok K = true := by
  obtain ⟨_, _, _, c⟩ := T
  exact c.d.fact i h
theorem Top.ex (T : Top w K mg) (i : Nat) {f : PySem.W.Frag → Bool} (h : exL[i]? = some f) : f K = true := by
  obtain ⟨_, _, _, c⟩ := T
  exact List.all_eq_true.mp (show (exL.all fun f => f K) = true from c.more) f (List.mem_of_getElem? h)
theorem Top.g_is_letter (T : Top w K mg) : mg ("is_letter" : Str) = some (.ref (He.ga K ("is_letter" : Str))) := by obtain ⟨h, X, G, c⟩ := T; exact He.glo_ok X G (c.d.fact 0 rfl)
theorem Top.g_is_digit (T : Top w K mg) : mg ("is_digit" : Str) = some (.ref (He.ga K ("is_digit" : Str))) := by obtain ⟨h, X, G, c⟩ := T; exact He.glo_ok X G (c.d.fact 1 rfl)
theorem Top.g_tokens (T : Top w K mg) : mg ("tokens" : Str) = some (.ref (He.ga K ("tokens" : Str))) := by obtain ⟨h, X, G, c⟩ := T; exact He.glo_ok X G (c.d.fact 2 rfl)
theorem Top.g_tokens_until (T : Top w K mg) : mg ("tokens_until" : Str) = some (.ref (He.ga K ("tokens_until" : Str))) := by obtain ⟨h, X, G, c⟩ := T; exact He.glo_ok X G (c.d.fact 3 rfl)
theorem Top.g__next_start (T : Top w K mg) : mg ("_next_start" : Str) = some (.ref (He.ga K ("_next_start" : Str))) := by obtain ⟨h, X, G, c⟩ := T; exact He.glo_ok X G (c.d.fact 4 rfl)
theorem Top.g__end_of_token (T : Top w K mg) : mg ("_end_of_token" : Str) = some (.ref (He.ga K ("_end_of_token" : Str))) := by obtain ⟨h, X, G, c⟩ := T; exact He.glo_ok X G (c.d.fact 5 rfl)
theorem Top.g__end_of_word (T : Top w K mg) : mg ("_end_of_word" : Str) = some (.ref (He.ga K ("_end_of_word" : Str))) := by obtain ⟨h, X, G, c⟩ := T; exact He.glo_ok X G (c.d.fact 6 rfl)
theorem Top.g__end_of_number (T : Top w K mg) : mg ("_end_of_number" : Str) = some (.ref (He.ga K ("_end_of_number" : Str))) := by obtain ⟨h, X, G, c⟩ := T; exact He.glo_ok X G (c.d.fact 7 rfl)
theorem Top.g__end_of_digits (T : Top w K mg) : mg ("_end_of_digits" : Str) = some (.ref (He.ga K ("_end_of_digits" : Str))) := by obtain ⟨h, X, G, c⟩ := T; exact He.glo_ok X G (c.d.fact 8 rfl)
theorem Top.g__kind (T : Top w K mg) : mg ("_kind" : Str) = some (.ref (He.ga K ("_kind" : Str))) := by obtain ⟨h, X, G, c⟩ := T; exact He.glo_ok X G (c.d.fact 9 rfl)
theorem Top.g__law_stream (T : Top w K mg) : mg ("_law_stream" : Str) = some (.ref (He.ga K ("_law_stream" : Str))) := by obtain ⟨h, X, G, c⟩ := T; exact He.glo_ok X G (c.d.fact 10 rfl)
theorem Top.g__law_draw (T : Top w K mg) : mg ("_law_draw" : Str) = some (.ref (He.ga K ("_law_draw" : Str))) := by obtain ⟨h, X, G, c⟩ := T; exact He.glo_ok X G (c.d.fact 11 rfl)
theorem Top.g__law_keywords (T : Top w K mg) : mg ("_law_keywords" : Str) = some (.ref (He.ga K ("_law_keywords" : Str))) := by obtain ⟨h, X, G, c⟩ := T; exact He.glo_ok X G (c.d.fact 12 rfl)
theorem Top.g__law_symbol (T : Top w K mg) : mg ("_law_symbol" : Str) = some (.ref (He.ga K ("_law_symbol" : Str))) := by obtain ⟨h, X, G, c⟩ := T; exact He.glo_ok X G (c.d.fact 13 rfl)
theorem Top.g__law_run_end (T : Top w K mg) : mg ("_law_run_end" : Str) = some (.ref (He.ga K ("_law_run_end" : Str))) := by obtain ⟨h, X, G, c⟩ := T; exact He.glo_ok X G (c.d.fact 14 rfl)
theorem Top.g__law_number_end (T : Top w K mg) : mg ("_law_number_end" : Str) = some (.ref (He.ga K ("_law_number_end" : Str))) := by obtain ⟨h, X, G, c⟩ := T; exact He.glo_ok X G (c.d.fact 15 rfl)
theorem Top.g__law_lex (T : Top w K mg) : mg ("_law_lex" : Str) = some (.ref (He.ga K ("_law_lex" : Str))) := by obtain ⟨h, X, G, c⟩ := T; exact He.glo_ok X G (c.d.fact 16 rfl)
theorem Top.g__law_piece (T : Top w K mg) : mg ("_law_piece" : Str) = some (.ref (He.ga K ("_law_piece" : Str))) := by obtain ⟨h, X, G, c⟩ := T; exact He.glo_ok X G (c.d.fact 17 rfl)
theorem Top.g__law_told (T : Top w K mg) : mg ("_law_told" : Str) = some (.ref (He.ga K ("_law_told" : Str))) := by obtain ⟨h, X, G, c⟩ := T; exact He.glo_ok X G (c.d.fact 18 rfl)
theorem Top.g_law (T : Top w K mg) : mg ("law" : Str) = some (.ref (He.ga K ("law" : Str))) := by obtain ⟨h, X, G, c⟩ := T; exact He.glo_ok X G (c.d.fact 19 rfl)
theorem Top.g_LinkworkError (T : Top w K mg) : mg ("LinkworkError" : Str) = some (.ref (He.ga K ("LinkworkError" : Str))) := by obtain ⟨h, X, G, c⟩ := T; exact He.glo_ok X G (c.d.fact 20 rfl)
theorem Top.g_BadText (T : Top w K mg) : mg ("BadText" : Str) = some (.ref (He.ga K ("BadText" : Str))) := by obtain ⟨h, X, G, c⟩ := T; exact He.glo_ok X G (c.d.fact 21 rfl)
theorem Top.n_ValueError (T : Top w K mg) : mg ("ValueError" : Str) = none := by obtain ⟨h, X, G, c⟩ := T; exact He.free_ok X G (c.d.fact 22 rfl)
theorem Top.n_abs (T : Top w K mg) : mg ("abs" : Str) = none := by obtain ⟨h, X, G, c⟩ := T; exact He.free_ok X G (c.d.fact 23 rfl)
theorem Top.n_int (T : Top w K mg) : mg ("int" : Str) = none := by obtain ⟨h, X, G, c⟩ := T; exact He.free_ok X G (c.d.fact 24 rfl)
theorem Top.n_isinstance (T : Top w K mg) : mg ("isinstance" : Str) = none := by obtain ⟨h, X, G, c⟩ := T; exact He.free_ok X G (c.d.fact 25 rfl)
theorem Top.n_len (T : Top w K mg) : mg ("len" : Str) = none := by obtain ⟨h, X, G, c⟩ := T; exact He.free_ok X G (c.d.fact 26 rfl)
theorem Top.n_list (T : Top w K mg) : mg ("list" : Str) = none := by obtain ⟨h, X, G, c⟩ := T; exact He.free_ok X G (c.d.fact 27 rfl)
theorem Top.n_max (T : Top w K mg) : mg ("max" : Str) = none := by obtain ⟨h, X, G, c⟩ := T; exact He.free_ok X G (c.d.fact 28 rfl)
theorem Top.n_range (T : Top w K mg) : mg ("range" : Str) = none := by obtain ⟨h, X, G, c⟩ := T; exact He.free_ok X G (c.d.fact 29 rfl)
theorem Top.i_MOST_LETTERS (T : Top w K mg) : ∃ u, mg ("MOST_LETTERS" : Str) = some u ∧ RelV (.int (20)) u := by obtain ⟨h, X, G, c⟩ := T; obtain ⟨t, e⟩ := He.int_ok X G (c.d.fact 30 rfl); exact ⟨_, e, t, rfl⟩
theorem Top.i_MOST_DIGITS (T : Top w K mg) : ∃ u, mg ("MOST_DIGITS" : Str) = some u ∧ RelV (.int (15)) u := by obtain ⟨h, X, G, c⟩ := T; obtain ⟨t, e⟩ := He.int_ok X G (c.d.fact 31 rfl); exact ⟨_, e, t, rfl⟩
theorem Top.g_KEYWORDS (T : Top w K mg) : mg ("KEYWORDS" : Str) = some (.ref (He.ga K ("KEYWORDS" : Str))) := by obtain ⟨h, X, G, c⟩ := T; exact He.glo_ok X G (c.d.fact 32 rfl)
theorem Top.g_LONG_SYMBOLS (T : Top w K mg) : mg ("LONG_SYMBOLS" : Str) = some (.ref (He.ga K ("LONG_SYMBOLS" : Str))) := by obtain ⟨h, X, G, c⟩ := T; exact He.glo_ok X G (c.d.fact 33 rfl)
theorem Top.s_SYMBOLS (T : Top w K mg) : ∃ u, mg ("SYMBOLS" : Str) = some u ∧ RelV (.str ("()[]{},;.=<>+-*/:" : Str)) u := by obtain ⟨h, X, G, c⟩ := T; obtain ⟨t, e⟩ := He.str_ok X G (c.d.fact 34 rfl); exact ⟨_, e, t, rfl⟩
theorem Top.exc_LinkworkError (T : Top w K mg) : PySem.W.excIn K (He.ga K ("LinkworkError" : Str)) He.veBase "ValueError.__new__" = true ∧ PySem.W.keepIn K (.ref (He.ga K ("LinkworkError" : Str))) = true ∧ PySem.W.subIn K (.ref (He.ga K ("LinkworkError" : Str))) (.type "BaseException") = some true ∧ PySem.W.typeIn K (.ref (He.ga K ("LinkworkError" : Str))) = some (.type "type") := He.exc_ok (T.fact 35 rfl)
theorem Top.exm_BadText_BadText (T : Top w K mg) : PySem.W.exmOne K (.ref (He.ga K ("BadText" : Str))) (.ref (He.ga K ("BadText" : Str))) = some true := He.exm_ok (T.fact 36 rfl)
theorem Top.k_KEYWORDS (T : Top w K mg) : ∃ u, mg ("KEYWORDS" : Str) = some u ∧ RelV (.ref (He.ga K ("KEYWORDS" : Str))) u := ⟨_, T.g_KEYWORDS, rfl⟩
theorem Top.k_LONG_SYMBOLS (T : Top w K mg) : ∃ u, mg ("LONG_SYMBOLS" : Str) = some u ∧ RelV (.ref (He.ga K ("LONG_SYMBOLS" : Str))) u := ⟨_, T.g_LONG_SYMBOLS, rfl⟩
theorem Top.x_lw_LinkworkError (T : Top w K mg) : ex_lw_LinkworkError K = true := T.ex 0 rfl
theorem Top.x_excC_LinkworkError (T : Top w K mg) : ex_excC_LinkworkError K = true := T.ex 1 rfl
theorem Top.x_excC_BadText (T : Top w K mg) : ex_excC_BadText K = true := T.ex 2 rfl
theorem Top.x_oex_BadText (T : Top w K mg) : ex_oex_BadText K = true := T.ex 3 rfl
theorem Top.x_xf_BadText_at (T : Top w K mg) : ex_xf_BadText_at K = true := T.ex 4 rfl
theorem Top.x_xfr_BadText (T : Top w K mg) : ex_xfr_BadText K = true := T.ex 5 rfl
theorem Top.x_t_KEYWORDS (T : Top w K mg) : ex_t_KEYWORDS K = true := T.ex 6 rfl
theorem Top.x_t_LONG_SYMBOLS (T : Top w K mg) : ex_t_LONG_SYMBOLS K = true := T.ex 7 rfl
theorem Top.x_kit_BadText_LinkworkError (T : Top w K mg) : ex_kit_BadText_LinkworkError K = true := T.ex 8 rfl
theorem Top.x_kit_BadText_t_ValueError (T : Top w K mg) : ex_kit_BadText_t_ValueError K = true := T.ex 9 rfl
theorem Top.f_BadText___init__ (T : Top w K mg) : FunD K ("__init__" : Str) ("BadText.__init__" : Str) (defArgs s_BadText___init__) (defBody s_BadText___init__) (defScope s_BadText___init__) (d_BadText___init__.dvs K) (d_BadText___init__.kws K) (He.ma K (He.ga K ("BadText" : Str)) ("__init__" : Str)) (fdOf K d_BadText___init__) := T.fun_ 0 rfl
theorem Top.b_BadText___init__ (T : Top w K mg) : Binds K (fdOf K d_BadText___init__) ["self", "at"] [] := (show FunD K ("__init__" : Str) ("BadText.__init__" : Str) (defArgs s_BadText___init__) (defBody s_BadText___init__) (defScope s_BadText___init__) [] (d_BadText___init__.kws K) (He.ma K (He.ga K ("BadText" : Str)) ("__init__" : Str)) (fdOf K d_BadText___init__) from T.f_BadText___init__).bindsN fun _ _ _ _ _ _ us hl => match us, hl with | [_, _], _ => rfl
theorem sc_BadText___init__ : FnScope ["self", "at"] ["self", "at"] (defScope s_BadText___init__) := ⟨rfl, rfl, rfl, by decide +kernel, rfl, by decide +kernel, by decide +kernel⟩
theorem Top.f_is_letter (T : Top w K mg) : FunD K ("is_letter" : Str) ("is_letter" : Str) (defArgs s_is_letter) (defBody s_is_letter) (defScope s_is_letter) (d_is_letter.dvs K) (d_is_letter.kws K) (He.ga K ("is_letter" : Str)) (fdOf K d_is_letter) := T.fun_ 1 rfl
theorem Top.b_is_letter (T : Top w K mg) : Binds K (fdOf K d_is_letter) ["character"] [] := (show FunD K ("is_letter" : Str) ("is_letter" : Str) (defArgs s_is_letter) (defBody s_is_letter) (defScope s_is_letter) [] (d_is_letter.kws K) (He.ga K ("is_letter" : Str)) (fdOf K d_is_letter) from T.f_is_letter).bindsN fun _ _ _ _ _ _ us hl => match us, hl with | [_], _ => rfl
theorem sc_is_letter : FnScope ["character"] ["character"] (defScope s_is_letter) := ⟨rfl, rfl, rfl, by decide +kernel, rfl, by decide +kernel, by decide +kernel⟩
theorem Top.f_is_digit (T : Top w K mg) : FunD K ("is_digit" : Str) ("is_digit" : Str) (defArgs s_is_digit) (defBody s_is_digit) (defScope s_is_digit) (d_is_digit.dvs K) (d_is_digit.kws K) (He.ga K ("is_digit" : Str)) (fdOf K d_is_digit) := T.fun_ 2 rfl
theorem Top.b_is_digit (T : Top w K mg) : Binds K (fdOf K d_is_digit) ["character"] [] := (show FunD K ("is_digit" : Str) ("is_digit" : Str) (defArgs s_is_digit) (defBody s_is_digit) (defScope s_is_digit) [] (d_is_digit.kws K) (He.ga K ("is_digit" : Str)) (fdOf K d_is_digit) from T.f_is_digit).bindsN fun _ _ _ _ _ _ us hl => match us, hl with | [_], _ => rfl
theorem sc_is_digit : FnScope ["character"] ["character"] (defScope s_is_digit) := ⟨rfl, rfl, rfl, by decide +kernel, rfl, by decide +kernel, by decide +kernel⟩
theorem Top.f_tokens (T : Top w K mg) : FunD K ("tokens" : Str) ("tokens" : Str) (defArgs s_tokens) (defBody s_tokens) (defScope s_tokens) (d_tokens.dvs K) (d_tokens.kws K) (He.ga K ("tokens" : Str)) (fdOf K d_tokens) := T.fun_ 3 rfl
theorem Top.b_tokens (T : Top w K mg) : Binds K (fdOf K d_tokens) ["source"] [] := (show FunD K ("tokens" : Str) ("tokens" : Str) (defArgs s_tokens) (defBody s_tokens) (defScope s_tokens) [] (d_tokens.kws K) (He.ga K ("tokens" : Str)) (fdOf K d_tokens) from T.f_tokens).bindsN fun _ _ _ _ _ _ us hl => match us, hl with | [_], _ => rfl
theorem sc_tokens : FnScope ["source", "found", "stop"] ["source"] (defScope s_tokens) := ⟨rfl, rfl, rfl, by decide +kernel, rfl, by decide +kernel, by decide +kernel⟩
theorem Top.f_tokens_until (T : Top w K mg) : FunD K ("tokens_until" : Str) ("tokens_until" : Str) (defArgs s_tokens_until) (defBody s_tokens_until) (defScope s_tokens_until) (d_tokens_until.dvs K) (d_tokens_until.kws K) (He.ga K ("tokens_until" : Str)) (fdOf K d_tokens_until) := T.fun_ 4 rfl
theorem Top.b_tokens_until (T : Top w K mg) : Binds K (fdOf K d_tokens_until) ["source"] [] := (show FunD K ("tokens_until" : Str) ("tokens_until" : Str) (defArgs s_tokens_until) (defBody s_tokens_until) (defScope s_tokens_until) [] (d_tokens_until.kws K) (He.ga K ("tokens_until" : Str)) (fdOf K d_tokens_until) from T.f_tokens_until).bindsN fun _ _ _ _ _ _ us hl => match us, hl with | [_], _ => rfl
theorem sc_tokens_until : FnScope ["source", "found", "at", "end", "text"] ["source"] (defScope s_tokens_until) := ⟨rfl, rfl, rfl, by decide +kernel, rfl, by decide +kernel, by decide +kernel⟩
theorem Top.f__next_start (T : Top w K mg) : FunD K ("_next_start" : Str) ("_next_start" : Str) (defArgs s__next_start) (defBody s__next_start) (defScope s__next_start) (d__next_start.dvs K) (d__next_start.kws K) (He.ga K ("_next_start" : Str)) (fdOf K d__next_start) := T.fun_ 5 rfl
theorem Top.b__next_start (T : Top w K mg) : Binds K (fdOf K d__next_start) ["source", "at"] [] := (show FunD K ("_next_start" : Str) ("_next_start" : Str) (defArgs s__next_start) (defBody s__next_start) (defScope s__next_start) [] (d__next_start.kws K) (He.ga K ("_next_start" : Str)) (fdOf K d__next_start) from T.f__next_start).bindsN fun _ _ _ _ _ _ us hl => match us, hl with | [_, _], _ => rfl
theorem sc__next_start : FnScope ["source", "at", "end"] ["source", "at"] (defScope s__next_start) := ⟨rfl, rfl, rfl, by decide +kernel, rfl, by decide +kernel, by decide +kernel⟩
theorem Top.f__end_of_token (T : Top w K mg) : FunD K ("_end_of_token" : Str) ("_end_of_token" : Str) (defArgs s__end_of_token) (defBody s__end_of_token) (defScope s__end_of_token) (d__end_of_token.dvs K) (d__end_of_token.kws K) (He.ga K ("_end_of_token" : Str)) (fdOf K d__end_of_token) := T.fun_ 6 rfl
theorem Top.b__end_of_token (T : Top w K mg) : Binds K (fdOf K d__end_of_token) ["source", "at"] [] := (show FunD K ("_end_of_token" : Str) ("_end_of_token" : Str) (defArgs s__end_of_token) (defBody s__end_of_token) (defScope s__end_of_token) [] (d__end_of_token.kws K) (He.ga K ("_end_of_token" : Str)) (fdOf K d__end_of_token) from T.f__end_of_token).bindsN fun _ _ _ _ _ _ us hl => match us, hl with | [_, _], _ => rfl
theorem sc__end_of_token : FnScope ["source", "at", "end"] ["source", "at"] (defScope s__end_of_token) := ⟨rfl, rfl, rfl, by decide +kernel, rfl, by decide +kernel, by decide +kernel⟩
theorem Top.f__end_of_word (T : Top w K mg) : FunD K ("_end_of_word" : Str) ("_end_of_word" : Str) (defArgs s__end_of_word) (defBody s__end_of_word) (defScope s__end_of_word) (d__end_of_word.dvs K) (d__end_of_word.kws K) (He.ga K ("_end_of_word" : Str)) (fdOf K d__end_of_word) := T.fun_ 7 rfl
theorem Top.b__end_of_word (T : Top w K mg) : Binds K (fdOf K d__end_of_word) ["source", "at"] [] := (show FunD K ("_end_of_word" : Str) ("_end_of_word" : Str) (defArgs s__end_of_word) (defBody s__end_of_word) (defScope s__end_of_word) [] (d__end_of_word.kws K) (He.ga K ("_end_of_word" : Str)) (fdOf K d__end_of_word) from T.f__end_of_word).bindsN fun _ _ _ _ _ _ us hl => match us, hl with | [_, _], _ => rfl
theorem sc__end_of_word : FnScope ["source", "at", "end"] ["source", "at"] (defScope s__end_of_word) := ⟨rfl, rfl, rfl, by decide +kernel, rfl, by decide +kernel, by decide +kernel⟩
theorem Top.f__end_of_number (T : Top w K mg) : FunD K ("_end_of_number" : Str) ("_end_of_number" : Str) (defArgs s__end_of_number) (defBody s__end_of_number) (defScope s__end_of_number) (d__end_of_number.dvs K) (d__end_of_number.kws K) (He.ga K ("_end_of_number" : Str)) (fdOf K d__end_of_number) := T.fun_ 8 rfl
theorem Top.b__end_of_number (T : Top w K mg) : Binds K (fdOf K d__end_of_number) ["source", "at"] [] := (show FunD K ("_end_of_number" : Str) ("_end_of_number" : Str) (defArgs s__end_of_number) (defBody s__end_of_number) (defScope s__end_of_number) [] (d__end_of_number.kws K) (He.ga K ("_end_of_number" : Str)) (fdOf K d__end_of_number) from T.f__end_of_number).bindsN fun _ _ _ _ _ _ us hl => match us, hl with | [_, _], _ => rfl
theorem sc__end_of_number : FnScope ["source", "at", "point", "end"] ["source", "at"] (defScope s__end_of_number) := ⟨rfl, rfl, rfl, by decide +kernel, rfl, by decide +kernel, by decide +kernel⟩
theorem Top.f__end_of_digits (T : Top w K mg) : FunD K ("_end_of_digits" : Str) ("_end_of_digits" : Str) (defArgs s__end_of_digits) (defBody s__end_of_digits) (defScope s__end_of_digits) (d__end_of_digits.dvs K) (d__end_of_digits.kws K) (He.ga K ("_end_of_digits" : Str)) (fdOf K d__end_of_digits) := T.fun_ 9 rfl
theorem Top.b__end_of_digits (T : Top w K mg) : Binds K (fdOf K d__end_of_digits) ["source", "at"] [] := (show FunD K ("_end_of_digits" : Str) ("_end_of_digits" : Str) (defArgs s__end_of_digits) (defBody s__end_of_digits) (defScope s__end_of_digits) [] (d__end_of_digits.kws K) (He.ga K ("_end_of_digits" : Str)) (fdOf K d__end_of_digits) from T.f__end_of_digits).bindsN fun _ _ _ _ _ _ us hl => match us, hl with | [_, _], _ => rfl
theorem sc__end_of_digits : FnScope ["source", "at", "end"] ["source", "at"] (defScope s__end_of_digits) := ⟨rfl, rfl, rfl, by decide +kernel, rfl, by decide +kernel, by decide +kernel⟩
theorem Top.f__kind (T : Top w K mg) : FunD K ("_kind" : Str) ("_kind" : Str) (defArgs s__kind) (defBody s__kind) (defScope s__kind) (d__kind.dvs K) (d__kind.kws K) (He.ga K ("_kind" : Str)) (fdOf K d__kind) := T.fun_ 10 rfl
theorem Top.b__kind (T : Top w K mg) : Binds K (fdOf K d__kind) ["text"] [] := (show FunD K ("_kind" : Str) ("_kind" : Str) (defArgs s__kind) (defBody s__kind) (defScope s__kind) [] (d__kind.kws K) (He.ga K ("_kind" : Str)) (fdOf K d__kind) from T.f__kind).bindsN fun _ _ _ _ _ _ us hl => match us, hl with | [_], _ => rfl
theorem sc__kind : FnScope ["text"] ["text"] (defScope s__kind) := ⟨rfl, rfl, rfl, by decide +kernel, rfl, by decide +kernel, by decide +kernel⟩
theorem Top.f__law_stream (T : Top w K mg) : FunD K ("_law_stream" : Str) ("_law_stream" : Str) (defArgs s__law_stream) (defBody s__law_stream) (defScope s__law_stream) (d__law_stream.dvs K) (d__law_stream.kws K) (He.ga K ("_law_stream" : Str)) (fdOf K d__law_stream) := T.fun_ 11 rfl
theorem Top.b__law_stream (T : Top w K mg) : Binds K (fdOf K d__law_stream) ["script"] [] := (show FunD K ("_law_stream" : Str) ("_law_stream" : Str) (defArgs s__law_stream) (defBody s__law_stream) (defScope s__law_stream) [] (d__law_stream.kws K) (He.ga K ("_law_stream" : Str)) (fdOf K d__law_stream) from T.f__law_stream).bindsN fun _ _ _ _ _ _ us hl => match us, hl with | [_], _ => rfl
theorem sc__law_stream : FnScope ["script", "mixed", "cell"] ["script"] (defScope s__law_stream) := ⟨rfl, rfl, rfl, by decide +kernel, rfl, by decide +kernel, by decide +kernel⟩
theorem Top.f__law_draw (T : Top w K mg) : FunD K ("_law_draw" : Str) ("_law_draw" : Str) (defArgs s__law_draw) (defBody s__law_draw) (defScope s__law_draw) (d__law_draw.dvs K) (d__law_draw.kws K) (He.ga K ("_law_draw" : Str)) (fdOf K d__law_draw) := T.fun_ 12 rfl
theorem Top.b__law_draw (T : Top w K mg) : Binds K (fdOf K d__law_draw) ["stream", "many"] [] := (show FunD K ("_law_draw" : Str) ("_law_draw" : Str) (defArgs s__law_draw) (defBody s__law_draw) (defScope s__law_draw) [] (d__law_draw.kws K) (He.ga K ("_law_draw" : Str)) (fdOf K d__law_draw) from T.f__law_draw).bindsN fun _ _ _ _ _ _ us hl => match us, hl with | [_, _], _ => rfl
theorem sc__law_draw : FnScope ["stream", "many", "value"] ["stream", "many"] (defScope s__law_draw) := ⟨rfl, rfl, rfl, by decide +kernel, rfl, by decide +kernel, by decide +kernel⟩
theorem Top.f__law_keywords (T : Top w K mg) : FunD K ("_law_keywords" : Str) ("_law_keywords" : Str) (defArgs s__law_keywords) (defBody s__law_keywords) (defScope s__law_keywords) (d__law_keywords.dvs K) (d__law_keywords.kws K) (He.ga K ("_law_keywords" : Str)) (fdOf K d__law_keywords) := T.fun_ 13 rfl
theorem Top.b__law_keywords (T : Top w K mg) : Binds K (fdOf K d__law_keywords) [] [] := (show FunD K ("_law_keywords" : Str) ("_law_keywords" : Str) (defArgs s__law_keywords) (defBody s__law_keywords) (defScope s__law_keywords) [] (d__law_keywords.kws K) (He.ga K ("_law_keywords" : Str)) (fdOf K d__law_keywords) from T.f__law_keywords).bindsN fun _ _ _ _ _ _ us hl => match us, hl with | [], _ => rfl
theorem sc__law_keywords : FnScope ["words"] [] (defScope s__law_keywords) := ⟨rfl, rfl, rfl, by decide +kernel, rfl, by decide +kernel, by decide +kernel⟩
theorem Top.f__law_symbol (T : Top w K mg) : FunD K ("_law_symbol" : Str) ("_law_symbol" : Str) (defArgs s__law_symbol) (defBody s__law_symbol) (defScope s__law_symbol) (d__law_symbol.dvs K) (d__law_symbol.kws K) (He.ga K ("_law_symbol" : Str)) (fdOf K d__law_symbol) := T.fun_ 14 rfl
theorem Top.b__law_symbol (T : Top w K mg) : Binds K (fdOf K d__law_symbol) ["text", "at"] [] := (show FunD K ("_law_symbol" : Str) ("_law_symbol" : Str) (defArgs s__law_symbol) (defBody s__law_symbol) (defScope s__law_symbol) [] (d__law_symbol.kws K) (He.ga K ("_law_symbol" : Str)) (fdOf K d__law_symbol) from T.f__law_symbol).bindsN fun _ _ _ _ _ _ us hl => match us, hl with | [_, _], _ => rfl
theorem sc__law_symbol : FnScope ["text", "at", "word"] ["text", "at"] (defScope s__law_symbol) := ⟨rfl, rfl, rfl, by decide +kernel, rfl, by decide +kernel, by decide +kernel⟩
theorem Top.f__law_run_end (T : Top w K mg) : FunD K ("_law_run_end" : Str) ("_law_run_end" : Str) (defArgs s__law_run_end) (defBody s__law_run_end) (defScope s__law_run_end) (d__law_run_end.dvs K) (d__law_run_end.kws K) (He.ga K ("_law_run_end" : Str)) (fdOf K d__law_run_end) := T.fun_ 15 rfl
theorem Top.b__law_run_end (T : Top w K mg) : Binds K (fdOf K d__law_run_end) ["text", "at", "signs"] [] := (show FunD K ("_law_run_end" : Str) ("_law_run_end" : Str) (defArgs s__law_run_end) (defBody s__law_run_end) (defScope s__law_run_end) [] (d__law_run_end.kws K) (He.ga K ("_law_run_end" : Str)) (fdOf K d__law_run_end) from T.f__law_run_end).bindsN fun _ _ _ _ _ _ us hl => match us, hl with | [_, _, _], _ => rfl
theorem sc__law_run_end : FnScope ["text", "at", "signs"] ["text", "at", "signs"] (defScope s__law_run_end) := ⟨rfl, rfl, rfl, by decide +kernel, rfl, by decide +kernel, by decide +kernel⟩
theorem Top.f__law_number_end (T : Top w K mg) : FunD K ("_law_number_end" : Str) ("_law_number_end" : Str) (defArgs s__law_number_end) (defBody s__law_number_end) (defScope s__law_number_end) (d__law_number_end.dvs K) (d__law_number_end.kws K) (He.ga K ("_law_number_end" : Str)) (fdOf K d__law_number_end) := T.fun_ 16 rfl
theorem Top.b__law_number_end (T : Top w K mg) : Binds K (fdOf K d__law_number_end) ["text", "at"] [] := (show FunD K ("_law_number_end" : Str) ("_law_number_end" : Str) (defArgs s__law_number_end) (defBody s__law_number_end) (defScope s__law_number_end) [] (d__law_number_end.kws K) (He.ga K ("_law_number_end" : Str)) (fdOf K d__law_number_end) from T.f__law_number_end).bindsN fun _ _ _ _ _ _ us hl => match us, hl with | [_, _], _ => rfl
theorem sc__law_number_end : FnScope ["text", "at", "digits", "end", "longest", "last"] ["text", "at"] (defScope s__law_number_end) := ⟨rfl, rfl, rfl, by decide +kernel, rfl, by decide +kernel, by decide +kernel⟩
theorem Top.f__law_lex (T : Top w K mg) : FunD K ("_law_lex" : Str) ("_law_lex" : Str) (defArgs s__law_lex) (defBody s__law_lex) (defScope s__law_lex) (d__law_lex.dvs K) (d__law_lex.kws K) (He.ga K ("_law_lex" : Str)) (fdOf K d__law_lex) := T.fun_ 17 rfl
theorem Top.b__law_lex (T : Top w K mg) : Binds K (fdOf K d__law_lex) ["text"] [] := (show FunD K ("_law_lex" : Str) ("_law_lex" : Str) (defArgs s__law_lex) (defBody s__law_lex) (defScope s__law_lex) [] (d__law_lex.kws K) (He.ga K ("_law_lex" : Str)) (fdOf K d__law_lex) from T.f__law_lex).bindsN fun _ _ _ _ _ _ us hl => match us, hl with | [_], _ => rfl
theorem sc__law_lex : FnScope ["text", "letters", "keys", "found", "at", "end", "word", "longest"] ["text"] (defScope s__law_lex) := ⟨rfl, rfl, rfl, by decide +kernel, rfl, by decide +kernel, by decide +kernel⟩
theorem Top.f__law_piece (T : Top w K mg) : FunD K ("_law_piece" : Str) ("_law_piece" : Str) (defArgs s__law_piece) (defBody s__law_piece) (defScope s__law_piece) (d__law_piece.dvs K) (d__law_piece.kws K) (He.ga K ("_law_piece" : Str)) (fdOf K d__law_piece) := T.fun_ 18 rfl
theorem Top.b__law_piece (T : Top w K mg) : Binds K (fdOf K d__law_piece) ["stream"] [] := (show FunD K ("_law_piece" : Str) ("_law_piece" : Str) (defArgs s__law_piece) (defBody s__law_piece) (defScope s__law_piece) [] (d__law_piece.kws K) (He.ga K ("_law_piece" : Str)) (fdOf K d__law_piece) from T.f__law_piece).bindsN fun _ _ _ _ _ _ us hl => match us, hl with | [_], _ => rfl
theorem sc__law_piece : FnScope ["stream", "pick", "signs"] ["stream"] (defScope s__law_piece) := ⟨rfl, rfl, rfl, by decide +kernel, rfl, by decide +kernel, by decide +kernel⟩
theorem Top.f__law_told (T : Top w K mg) : FunD K ("_law_told" : Str) ("_law_told" : Str) (defArgs s__law_told) (defBody s__law_told) (defScope s__law_told) (d__law_told.dvs K) (d__law_told.kws K) (He.ga K ("_law_told" : Str)) (fdOf K d__law_told) := T.fun_ 19 rfl
theorem Top.b__law_told (T : Top w K mg) : Binds K (fdOf K d__law_told) ["text"] [] := (show FunD K ("_law_told" : Str) ("_law_told" : Str) (defArgs s__law_told) (defBody s__law_told) (defScope s__law_told) [] (d__law_told.kws K) (He.ga K ("_law_told" : Str)) (fdOf K d__law_told) from T.f__law_told).bindsN fun _ _ _ _ _ _ us hl => match us, hl with | [_], _ => rfl
theorem sc__law_told : FnScope ["text", "e"] ["text"] (defScope s__law_told) := ⟨rfl, rfl, rfl, by decide +kernel, rfl, by decide +kernel, by decide +kernel⟩
theorem Top.f_law (T : Top w K mg) : FunD K ("law" : Str) ("law" : Str) (defArgs s_law) (defBody s_law) (defScope s_law) (d_law.dvs K) (d_law.kws K) (He.ga K ("law" : Str)) (fdOf K d_law) := T.fun_ 20 rfl
theorem Top.b_law (T : Top w K mg) : Binds K (fdOf K d_law) ["script"] [] := (show FunD K ("law" : Str) ("law" : Str) (defArgs s_law) (defBody s_law) (defScope s_law) [] (d_law.kws K) (He.ga K ("law" : Str)) (fdOf K d_law) from T.f_law).bindsN fun _ _ _ _ _ _ us hl => match us, hl with | [_], _ => rfl
theorem sc_law : FnScope ["script", "stream", "text", "k", "found", "bad", "due"] ["script"] (defScope s_law) := ⟨rfl, rfl, rfl, by decide +kernel, rfl, by decide +kernel, by decide +kernel⟩
end
section
variable {P : Program} {w : World} {K : PySem.W.Frag} {mg : Str → Option Value} {base : Heap}
/-! ### BadText(at) -/
def okIx : V → Prop := fun v => ∃ i : Int, v = .int i ∧ i.natAbs.log2 < 1920
theorem ok_BadText___init__ (T : Top w K mg) : FnOk P w K mg base CX0 1 (He.ma K (He.ga K ("BadText" : Str)) ("__init__" : Str)) (fdOf K d_BadText___init__) ["self", "at"] (spExc K (He.ga K "BadText") "at" okIx) := by
  refine (T.f_BadText___init__).ok sc_BadText___init__ (fun vs H Q E h => ?_) (fun cdv A outer s H vs Q E hr h => ?_)
  · obtain ⟨a, v, rfl, _⟩ := h
    rfl
  · obtain ⟨a, v, rfl, ha, ⟨i, rfl, hi⟩, k⟩ := h
    refine ⟨_, PSs.nox (pss_cons (ps_expr (pe_lwinit T.x_lw_LinkworkError rfl T.g_LinkworkError (pa_cons (pv 0) (pa_cons (pe_joined (.cons pe_str (.cons (pe_fmt (pv 1)) (.cons pe_str .nil)))) pa_nil))))
    (pss_one (ps_ost (pv 0) (pv 1)))), ?_⟩
    walk_at "go"
    have hl := int_text_length_le (k := 1920) (by decide) hi
    have l1 : (Str.empty ++ Str.ofString "the text cannot be read from the index " ++ toString i).length ≤ 2000 := by
      rw [PySem.Str.length_append, PySem.Str.length_append]
      have e0 : (Str.ofString (toString i)).length = (toString i).length := PySem.ofString_length _
      have e1 : Str.empty.length = 0 := by decide +kernel
      have e2 : (Str.ofString "the text cannot be read from the index ").length = 39 := by decide +kernel
      omega
    refine .inr ⟨i, rfl, hi, _, rfl, Nat.le_trans l1 (by rw [sizeLine_eq]; decide), ?_⟩
    refine ⟨_, rfl, ?_, ?_⟩
    · rw [PySem.Str.length_append]
      have e2 : (Str.ofString " on").length = 3 := by decide +kernel
      rw [e2, sizeLine_eq]
      omega
    · refine ⟨a, _, _, rfl, by show 1 ≤ 1000; decide, (oexB_ok T.x_oex_BadText).1, ha, ?_⟩
      refine ⟨_, rfl, _, rfl, a, _, rfl, (oexB_ok T.x_oex_BadText).1, He.eqO_ok T.x_xf_BadText_at, .inl ⟨ha, fun dx nd ne => ?_⟩⟩
      exact k dx nd ne
end
/-! ### letters, digits and runs of them -/
section
variable {P : Program} {w : World} {K : PySem.W.Frag} {mg : Str → Option Value} {base : Heap}
def isL (c : Nat) : Bool := (decide (97 ≤ c) && decide (c ≤ 122)) || (decide (65 ≤ c) && decide (c ≤ 90))
def isD (c : Nat) : Bool := decide (48 ≤ c) && decide (c ≤ 57)
theorem sign_lt (a b : Nat) : (([a] : List Nat) < [b]) ↔ a < b := by
  constructor
  · intro h
    cases h with
    | rel h => exact h
    | cons h => cases h
  · intro h
    exact .rel h
theorem ge1 (c k : Nat) : (!decide (([c] : List Nat) < [k])) = decide (k ≤ c) := by
  by_cases h : c < k
  · rw [decide_eq_true ((sign_lt c k).mpr h), decide_eq_false (show ¬ k ≤ c from by omega)] <;> rfl
  · rw [decide_eq_false (fun e => h ((sign_lt c k).mp e)), decide_eq_true (show k ≤ c from by omega)] <;> rfl
theorem st0 : (Str.ofString "0").cps.toList = [48] := by decide +kernel
theorem st9 : (Str.ofString "9").cps.toList = [57] := by decide +kernel
theorem sta : (Str.ofString "a").cps.toList = [97] := by decide +kernel
theorem stz : (Str.ofString "z").cps.toList = [122] := by decide +kernel
theorem stA : (Str.ofString "A").cps.toList = [65] := by decide +kernel
theorem stZ : (Str.ofString "Z").cps.toList = [90] := by decide +kernel
/-- one sign is another one -/
theorem sign_is (c k : Nat) {s : Str} (e : s = ⟨#[k]⟩) : decide (V.str ⟨#[c]⟩ = V.str s) = decide (c = k) := by
  subst e
  by_cases h : c = k
  · subst h
    rw [decide_eq_true rfl, decide_eq_true rfl]
  · rw [decide_eq_false h, decide_eq_false fun t => h ?_]
    have t2 := congrArg (fun z : Str => z.cps.toList) (V.str.inj t)
    exact List.head_eq_of_cons_eq t2
def spSign (f : Nat → Bool) : Sp := fun vs H Q _ => ∃ c : Nat, vs = [.str ⟨#[c]⟩] ∧ Q (.bl (f c)) H
theorem ok_is_digit (T : Top w K mg) : FnOk P w K mg base CX0 1 (He.ga K ("is_digit" : Str)) (fdOf K d_is_digit) ["character"] (spSign isD) := by
  refine (T.f_is_digit).ok sc_is_digit (fun vs H Q E h => ?_) (fun cdv A outer s H vs Q E hr h => ?_)
  · obtain ⟨c, rfl, _⟩ := h
    rfl
  · obtain ⟨c, rfl, k⟩ := h
    refine ⟨_, PSs.nox (pss_one (ps_ret (pe_chain op_le_str op_le_str pe_str (pv 0) pe_str))), ?_⟩
    walk_at "go"
    rw [st0, ge1]
    by_cases q : 48 ≤ c
    · rw [if_pos (decide_eq_true q)]
      walk_at "go"
      rw [st9, ge1]
      unfold isD at k
      rw [decide_eq_true q, Bool.true_and] at k
      exact k
    · rw [if_neg (by rw [decide_eq_false q]; decide)]
      unfold isD at k
      rw [decide_eq_false q, Bool.false_and] at k
      exact k
theorem ok_is_letter (T : Top w K mg) : FnOk P w K mg base CX0 1 (He.ga K ("is_letter" : Str)) (fdOf K d_is_letter) ["character"] (spSign isL) := by
  refine (T.f_is_letter).ok sc_is_letter (fun vs H Q E h => ?_) (fun cdv A outer s H vs Q E hr h => ?_)
  · obtain ⟨c, rfl, _⟩ := h
    rfl
  · obtain ⟨c, rfl, k⟩ := h
    refine ⟨_, PSs.nox (pss_one (ps_ret (pe_or (pe_chain op_le_str op_le_str pe_str (pv 0) pe_str) (pe_one (pe_chain op_le_str op_le_str pe_str (pv 0) pe_str))))), ?_⟩
    walk_at "go"
    unfold isL at k
    rw [sta, ge1]
    by_cases q : 97 ≤ c
    · rw [if_pos (decide_eq_true q)]
      walk_at "go"
      rw [decide_eq_true q, Bool.true_and] at k
      rw [stz, ge1]
      by_cases q2 : c ≤ 122
      · rw [if_pos (decide_eq_true q2)]
        rw [decide_eq_true q2, Bool.true_or] at k
        exact k
      · rw [if_neg (by rw [decide_eq_false q2]; decide)]
        rw [decide_eq_false q2, Bool.false_or] at k
        walk_at "go"
        rw [stA, ge1]
        by_cases q3 : 65 ≤ c
        · rw [if_pos (decide_eq_true q3)]
          walk_at "go"
          rw [stZ, ge1]
          rw [decide_eq_true q3, Bool.true_and] at k
          exact k
        · exact absurd (show 65 ≤ c from by omega) q3
    · rw [if_neg (by rw [decide_eq_false q]; decide)]
      rw [decide_eq_false q, Bool.false_and, Bool.false_or] at k
      walk_at "go"
      rw [stA, ge1]
      by_cases q3 : 65 ≤ c
      · rw [if_pos (decide_eq_true q3)]
        walk_at "go"
        rw [stZ, ge1]
        rw [decide_eq_true q3, Bool.true_and] at k
        exact k
      · rw [if_neg (by rw [decide_eq_false q3]; decide)]
        rw [decide_eq_false q3, Bool.false_and] at k
        exact k
/-- where a run of such signs that begins at i ends -/
def runEnd (f : Nat → Bool) (cs : List Nat) (i : Nat) : Nat := i + ((cs.drop i).takeWhile f).length
theorem runEnd_step {f : Nat → Bool} {cs : List Nat} {i c : Nat} (h : cs[i]? = some c) (hf : f c = true) : runEnd f cs i = runEnd f cs (i + 1) := by
  obtain ⟨hi, e⟩ := List.getElem?_eq_some_iff.mp h
  unfold runEnd
  rw [List.drop_eq_getElem_cons hi, e, List.takeWhile_cons, if_pos hf, List.length_cons]
  omega
theorem runEnd_stop {f : Nat → Bool} {cs : List Nat} {i c : Nat} (h : cs[i]? = some c) (hf : f c = false) : runEnd f cs i = i := by
  obtain ⟨hi, e⟩ := List.getElem?_eq_some_iff.mp h
  unfold runEnd
  rw [List.drop_eq_getElem_cons hi, e, List.takeWhile_cons, if_neg (by rw [hf]; decide)]
  rfl
theorem runEnd_over {f : Nat → Bool} {cs : List Nat} {i : Nat} (h : cs.length ≤ i) : runEnd f cs i = i := by
  unfold runEnd
  rw [List.drop_eq_nil_of_le h]
  rfl
theorem runEnd_le (f : Nat → Bool) (cs : List Nat) (i : Nat) (h : i ≤ cs.length) : runEnd f cs i ≤ cs.length := by
  unfold runEnd
  have h1 := (List.takeWhile_sublist f (l := cs.drop i)).length_le
  rw [List.length_drop] at h1
  omega
theorem le_runEnd (f : Nat → Bool) (cs : List Nat) (i : Nat) : i ≤ runEnd f cs i := Nat.le_add_right _ _
theorem str_len (x : Str) : x.length = x.cps.toList.length := by simp [Str.length]
theorem str_fits {x : Str} (h : x.cps.toList.length ≤ 100000) : x.length ≤ sizeLine := by rw [str_len]; exact Nat.le_trans h (by rw [sizeLine_eq]; decide)
/-- a text of so many signs -/
def spRun (f : Nat → Bool) : Sp := fun vs H Q _ => ∃ (x : Str) (i : Nat), vs = [.str x, .int (i : Int)] ∧ x.cps.toList.length ≤ 100000 ∧ Q (.int ((runEnd f x.cps.toList i : Nat) : Int)) H
theorem ok__end_of_digits (T : Top w K mg) : FnOk P w K mg base CX0 2 (He.ga K ("_end_of_digits" : Str)) (fdOf K d__end_of_digits) ["source", "at"] (spRun isD) := by
  refine (T.f__end_of_digits).ok sc__end_of_digits (fun vs H Q E h => ?_) (fun cdv A outer s H vs Q E hr h => ?_)
  · obtain ⟨x, i, rfl, _⟩ := h
    rfl
  · obtain ⟨x, i, rfl, hx, k⟩ := h
    refine ⟨_, PSs.nox (pss_cons (ps_set (i := 2) sc__end_of_digits.nd rfl (Or.inl rfl) (pv 1))
    (pss_cons (ps_while PassesOwn.never (PW.pt (pw_and (pt_cmpR op_lt (pv 2) (pe_callB call_len_str (by rfl) T.n_len PySem.boot_len (pa_cons (pv 0) pa_nil)) (nomark _)) (pw_and1 (pt_val (pe_call (ok_is_digit (K := K) T) (hr.mono (by decide)) rfl T.g_is_digit T.f_is_digit.kp T.b_is_digit .nil pass0 (pa_cons (pe_ix ix_str (pv 0) (pv 2) (fun _ _ => rfl)) pa_nil))))))
    (pss_one (ps_aug (i := 2) sc__end_of_digits.nd rfl (Or.inl rfl) pe_int ip_add)))
    (pss_one (ps_ret (pv 2))))), ?_⟩
    walk_at "go"
    refine r_while (fun m σ H' => H' = H ∧ ∃ j : Nat, σ = [some (.str x), some (.int (i : Int)), some (.int (j : Int))] ∧ runEnd isD x.cps.toList j = runEnd isD x.cps.toList i ∧ m = x.cps.toList.length - j) (x.cps.toList.length - i) ⟨rfl, i, rfl, rfl, rfl⟩ ?_
    rintro m σ H' ⟨rfl, j, rfl, hj, rfl⟩
    walk_at "go"
    refine ⟨str_fits hx, ?_⟩
    walk_at "go"
    refine ite_d (fun c => ?_) (fun c => ?_)
    · have hjl : j < x.cps.toList.length := by rw [← str_len]; omega
      have hc := List.getElem?_eq_getElem hjl
      walk_at "go"
      refine ⟨x, _, _, rfl, rfl, str_fits hx, atI_nat hc, ?_⟩
      walk_at "go"
      by_cases q : isD x.cps.toList[j] = true
      · rw [if_pos q]
        refine ⟨_, fun _ _ z => z, ?_⟩
        walk_at "go"
        refine ⟨x.cps.toList.length - (j + 1), by omega, rfl, j + 1, rfl, ?_, rfl⟩
        rw [← hj, runEnd_step hc q]
      · rw [if_neg q]
        walk_at "go"
        rw [← hj, runEnd_stop hc (Bool.eq_false_iff.mpr q)] at k
        exact k
    · have hjl : x.cps.toList.length ≤ j := by rw [← str_len]; omega
      walk_at "go"
      rw [← hj, runEnd_over hjl] at k
      exact k
/-- a sign of a word -/
def isW (c : Nat) : Bool := isL c || isD c || decide (c = 95)
theorem ok__end_of_word (T : Top w K mg) : FnOk P w K mg base CX0 2 (He.ga K ("_end_of_word" : Str)) (fdOf K d__end_of_word) ["source", "at"] (spRun isW) := by
  refine (T.f__end_of_word).ok sc__end_of_word (fun vs H Q E h => ?_) (fun cdv A outer s H vs Q E hr h => ?_)
  · obtain ⟨x, i, rfl, _⟩ := h
    rfl
  · obtain ⟨x, i, rfl, hx, k⟩ := h
    refine ⟨_, PSs.nox (pss_cons (ps_set (i := 2) sc__end_of_word.nd rfl (Or.inl rfl) (pv 1))
    (pss_cons (ps_while PassesOwn.never (PW.pt (pw_and (pt_cmpR op_lt (pv 2) (pe_callB call_len_str (by rfl) T.n_len PySem.boot_len (pa_cons (pv 0) pa_nil)) (nomark _)) (pw_and1 (PW.pt (pw_or (pt_val (pe_call (ok_is_letter (K := K) T) (hr.mono (by decide)) rfl T.g_is_letter T.f_is_letter.kp T.b_is_letter .nil pass0 (pa_cons (pe_ix ix_str (pv 0) (pv 2) (fun _ _ => rfl)) pa_nil))) (pw_or (pt_val (pe_call (ok_is_digit (K := K) T) (hr.mono (by decide)) rfl T.g_is_digit T.f_is_digit.kp T.b_is_digit .nil pass0 (pa_cons (pe_ix ix_str (pv 0) (pv 2) (fun _ _ => rfl)) pa_nil))) (pw_or1 (pt_cmpR op_eq (pe_ix ix_str (pv 0) (pv 2) (fun _ _ => rfl)) pe_str (nomark _)))))))))
    (pss_one (ps_aug (i := 2) sc__end_of_word.nd rfl (Or.inl rfl) pe_int ip_add)))
    (pss_one (ps_ret (pv 2))))), ?_⟩
    walk_at "go"
    refine r_while (fun m σ H' => H' = H ∧ ∃ j : Nat, σ = [some (.str x), some (.int (i : Int)), some (.int (j : Int))] ∧ runEnd isW x.cps.toList j = runEnd isW x.cps.toList i ∧ m = x.cps.toList.length - j) (x.cps.toList.length - i) ⟨rfl, i, rfl, rfl, rfl⟩ ?_
    rintro m σ H' ⟨rfl, j, rfl, hj, rfl⟩
    walk_at "go"
    refine ⟨str_fits hx, ?_⟩
    walk_at "go"
    refine ite_d (fun c => ?_) (fun c => ?_)
    · have hjl : j < x.cps.toList.length := by rw [← str_len]; omega
      have hc := List.getElem?_eq_getElem hjl
      have yes : isW x.cps.toList[j] = true → tAug 2 (tC (V.int 1)) (ipI fun i j => i + j) { nx := fun σ' H'_1 => ∃ m', m' < x.cps.toList.length - j ∧ H'_1 = H' ∧ ∃ j : Nat, σ' = [some (V.str x), some (V.int (i : Int)), some (V.int (j : Int))] ∧ runEnd isW x.cps.toList j = runEnd isW x.cps.toList i ∧ m' = x.cps.toList.length - j, rt := Q, bk := fun σ H => tRet (tVar 2) { nx := fun x H' => Q V.non H', rt := Q } σ H, ct := fun σ' H'_1 => ∃ m', m' < x.cps.toList.length - j ∧ H'_1 = H' ∧ ∃ j : Nat, σ' = [some (V.str x), some (V.int (i : Int)), some (V.int (j : Int))] ∧ runEnd isW x.cps.toList j = runEnd isW x.cps.toList i ∧ m' = x.cps.toList.length - j } [some (V.str x), some (V.int (i : Int)), some (V.int (j : Int))] H' := by
        intro q
        walk_at "go"
        refine ⟨x.cps.toList.length - (j + 1), by omega, rfl, j + 1, rfl, ?_, rfl⟩
        rw [← hj, runEnd_step hc q]
      walk_at "go"
      refine ⟨x, _, _, rfl, rfl, str_fits hx, atI_nat hc, ?_⟩
      walk_at "go"
      by_cases q : isL x.cps.toList[j] = true
      · rw [if_pos q]
        walk_at "go"
        refine ⟨_, fun _ _ z => z, yes ?_⟩
        unfold isW
        rw [q] <;> rfl
      · rw [if_neg q]
        walk_at "go"
        refine ⟨x, _, _, rfl, rfl, str_fits hx, atI_nat hc, ?_⟩
        walk_at "go"
        by_cases q2 : isD x.cps.toList[j] = true
        · rw [if_pos q2]
          walk_at "go"
          refine ⟨_, fun _ _ z => z, yes ?_⟩
          unfold isW
          rw [q2, Bool.or_true] <;> rfl
        · rw [if_neg q2]
          walk_at "go"
          refine ⟨x, _, _, rfl, rfl, str_fits hx, atI_nat hc, ?_⟩
          walk_at "go"
          have e95 : decide (V.str ⟨#[x.cps.toList[j]]⟩ = V.str (Str.ofString "_")) = decide (x.cps.toList[j] = 95) := sign_is _ 95 (by decide +kernel)
          rw [e95]
          by_cases q3 : x.cps.toList[j] = 95
          · rw [if_pos (decide_eq_true q3)]
            refine ⟨_, fun _ _ z => z, yes ?_⟩
            unfold isW
            rw [decide_eq_true q3, Bool.or_true]
          · rw [if_neg (by rw [decide_eq_false q3]; decide)]
            walk_at "go"
            have no : isW x.cps.toList[j] = false := by
              unfold isW
              rw [Bool.eq_false_iff.mpr q, Bool.eq_false_iff.mpr q2, decide_eq_false q3] <;> rfl
            rw [← hj, runEnd_stop hc no] at k
            exact k
    · have hjl : x.cps.toList.length ≤ j := by rw [← str_len]; omega
      walk_at "go"
      rw [← hj, runEnd_over hjl] at k
      exact k
end
/-! ### numbers: digits, or digits, a point and digits -/
section
variable {P : Program} {w : World} {K : PySem.W.Frag} {mg : Str → Option Value} {base : Heap}
theorem from_nat (n p : Nat) : PySem.fromIndex n (p : Int) = p := by
  unfold PySem.fromIndex
  rw [if_neg (by omega)]
  omega
theorem starts1 (x : Str) (p k : Nat) {s : Str} (e : s = ⟨#[k]⟩) : Txt.startswith3 x s (p : Int) = decide (x.cps.toList[p]? = some k) := by
  subst e
  unfold Txt.startswith3
  rw [from_nat, Bool.eq_iff_iff, Bool.and_eq_true, decide_eq_true_eq, decide_eq_true_eq]
  exact PySem.StrLaws.subAt_one x k p
/-- where the digits behind the point at p end, or p -/
def behind (cs : List Nat) (p : Nat) : Nat := if cs[p]? = some 46 then runEnd isD cs (p + 1) else p
/-- the number's end, before its bounds are looked at -/
def cutAt (p e : Nat) : Nat := if e ≤ p + 1 then p else e
def numEnd (cs : List Nat) (i : Nat) : Nat :=
  let p := runEnd isD cs i
  let e := cutAt p (behind cs p)
  if (15 : Int) < (p : Int) - i ∨ (15 : Int) < (e : Int) - p - 1 then i else e
def spEndN : Sp := fun vs H Q _ => ∃ (x : Str) (i : Nat), vs = [.str x, .int (i : Int)] ∧ x.cps.toList.length ≤ 100000 ∧ Q (.int ((numEnd x.cps.toList i : Nat) : Int)) H
theorem ok__end_of_number (T : Top w K mg) : FnOk P w K mg base CX0 3 (He.ga K ("_end_of_number" : Str)) (fdOf K d__end_of_number) ["source", "at"] spEndN := by
  refine (T.f__end_of_number).ok sc__end_of_number (fun vs H Q E h => ?_) (fun cdv A outer s H vs Q E hr h => ?_)
  · obtain ⟨x, i, rfl, _⟩ := h
    rfl
  · obtain ⟨x, i, rfl, hx, k⟩ := h
    refine ⟨_, PSs.nox (pss_cons (ps_set (i := 2) sc__end_of_number.nd rfl (Or.inl rfl) (pe_call (ok__end_of_digits (K := K) T) (hr.mono (by decide)) rfl T.g__end_of_digits T.f__end_of_digits.kp T.b__end_of_digits .nil pass0 (pa_cons (pv 0) (pa_cons (pv 1) pa_nil))))
    (pss_cons (ps_set (i := 3) sc__end_of_number.nd rfl (Or.inl rfl) (pe_ifExp (pt_val (pe_bm PySem.F.plainAttrs_str PySem.F.slot_str_startswith PySem.F.type_str_startswith mt_startswith3 (pv 0) (pa_cons pe_str (pa_cons (pv 2) pa_nil)))) (pe_call (ok__end_of_digits (K := K) T) (hr.mono (by decide)) rfl T.g__end_of_digits T.f__end_of_digits.kp T.b__end_of_digits .nil pass0 (pa_cons (pv 0) (pa_cons (pe_op op_add (pv 2) pe_int) pa_nil))) (pv 2)))
    (C8.pss_cut (ps_if (pt_cmpR op_le (pv 3) (pe_op op_add (pv 2) pe_int) (nomark _))
    (pss_one (ps_set (i := 3) sc__end_of_number.nd rfl (Or.inl rfl) (pv 2)))
    pss_nil)
    (pss_cons (ps_if (PW.pt (pw_or (pt_cmpR op_gt (pe_op op_sub (pv 2) (pv 1)) (pe_globE rfl T.i_MOST_DIGITS) (nomark _)) (pw_or1 (pt_cmpR op_gt (pe_op op_sub (pe_op op_sub (pv 3) (pv 2)) pe_int) (pe_globE rfl T.i_MOST_DIGITS) (nomark _)))))
    (pss_one (ps_ret (pv 1)))
    pss_nil)
    (pss_one (ps_ret (pv 3))))))), ?_⟩
    walk_at "go"
    refine ⟨rfl, ?_⟩
    walk_at "go"
    refine ⟨x, _, _, rfl, rfl, ?_⟩
    rw [starts1 x _ 46 (by decide +kernel)]
    have main : ∀ p e : Nat, runEnd isD x.cps.toList i = p → behind x.cps.toList p = e → Q (.int (((if (15 : Int) < (p : Int) - i ∨ (15 : Int) < ((cutAt p e : Nat) : Int) - p - 1 then i else cutAt p e) : Nat) : Int)) H := by
      rintro p e rfl rfl
      exact k
    generalize hp : runEnd isD x.cps.toList i = p
    refine ⟨_, rfl, ?_⟩
    by_cases c46 : x.cps.toList[p]? = some 46
    · rw [if_pos (decide_eq_true c46)]
      have k := main p _ hp (if_pos c46)
      walk_at "go"
      generalize runEnd isD x.cps.toList (p + 1) = e at k ⊢
      walk_at "go"
      refine r_cut (fun σ H' => H' = H ∧ σ = [some (.str x), some (.int (i : Int)), some (.int (p : Int)), some (.int ((cutAt p e : Nat) : Int))]) ?_ ?_
      · walk_at "go"
        refine ite_d (fun c => ?_) (fun c => ?_)
        · walk_at "go"
          refine ⟨rfl, ?_⟩
          rw [show cutAt p e = p from if_pos (by omega)] <;> rfl
        · walk_at "go"
          refine ⟨rfl, ?_⟩
          rw [show cutAt p e = e from if_neg (by omega)] <;> rfl
      · rintro σ H' ⟨rfl, rfl⟩
        generalize cutAt p e = e' at k
        walk_at "go"
        refine ite_d (fun c => ?_) (fun c => ?_)
        · walk_at "go"
          rw [if_pos (.inl c)] at k
          exact k
        · walk_at "go"
          refine ite_d (fun c2 => ?_) (fun c2 => ?_)
          · walk_at "go"
            rw [if_pos (.inr c2)] at k
            exact k
          · walk_at "go"
            rw [if_neg (fun t => t.elim c c2)] at k
            exact k
    · rw [if_neg (by rw [decide_eq_false c46]; decide)]
      obtain ⟨e, he⟩ : ∃ e, e = p := ⟨p, rfl⟩
      have k := main p e hp (by rw [he]; exact if_neg c46)
      walk_at "go"
      have he' : V.int (p : Int) = V.int (e : Int) := by rw [he]
      walk_at "go"
      refine r_cut (fun σ H' => H' = H ∧ σ = [some (.str x), some (.int (i : Int)), some (.int (p : Int)), some (.int ((cutAt p e : Nat) : Int))]) ?_ ?_
      · walk_at "go"
        refine ite_d (fun c => ?_) (fun c => ?_)
        · walk_at "go"
          refine ⟨rfl, ?_⟩
          rw [show cutAt p e = p from if_pos (by omega)] <;> rfl
        · exact absurd (show (p : Int) ≤ (p : Int) + 1 from by omega) c
      · rintro σ H' ⟨rfl, rfl⟩
        generalize cutAt p e = e' at k
        walk_at "go"
        refine ite_d (fun c => ?_) (fun c => ?_)
        · walk_at "go"
          rw [if_pos (.inl c)] at k
          exact k
        · walk_at "go"
          refine ite_d (fun c2 => ?_) (fun c2 => ?_)
          · walk_at "go"
            rw [if_pos (.inr c2)] at k
            exact k
          · walk_at "go"
            rw [if_neg (fun t => t.elim c c2)] at k
            exact k
end
/-! ### gaps: spaces, line feeds, remarks -/
section
variable {P : Program} {w : World} {K : PySem.W.Frag} {mg : Str → Option Value} {base : Heap}
open PySem.StrLaws PySem.Builtin.Str in
theorem occ_full (s sub : Str) (hi : Nat) : ∀ (l : List Nat) (st : Array Nat × Nat), ¬ st.fst.size < 1 → (forIn l st (occBody s sub hi 1)).run.fst = st.fst
  | [], st, _ => rfl
  | a :: l, st, h => by
    rw [List.forIn_cons]
    unfold occBody
    rw [if_neg (fun t => h t.1.1.1)]
    exact occ_full s sub hi l _ h
open PySem.StrLaws PySem.Builtin.Str in
/-- one sign from a place on: the first of it, or the end -/
theorem occ_from (x : Str) (k : Nat) : ∀ (l : Nat) (p free : Nat), free ≤ p → p + l = x.length + 1 →
    (forIn (List.range' p l) ((#[] : Array Nat), free) (occBody x ⟨#[k]⟩ x.length 1)).run.fst.toList = (if runEnd (fun c => decide (c ≠ k)) x.cps.toList p < x.cps.toList.length then [runEnd (fun c => decide (c ≠ k)) x.cps.toList p] else [])
  | 0, p, free, _, hl => by
    have h : x.cps.toList.length ≤ p := by rw [← str_len]; omega
    rw [runEnd_over h, if_neg (by omega)]
    rfl
  | l + 1, p, free, hf, hl => by
    rw [List.range'_succ, List.forIn_cons]
    unfold occBody
    by_cases c : x.cps.toList[p]? = some k
    · have d := (subAt_one x k p).mpr c
      rw [if_pos ⟨⟨⟨by simp, hf⟩, d.1⟩, d.2⟩]
      have e := runEnd_stop (f := fun c => decide (c ≠ k)) c (by simp)
      have hp := (List.getElem?_eq_some_iff.mp c).1
      rw [e, if_pos hp]
      have f := occ_full x ⟨#[k]⟩ x.length (List.range' (p + 1) l) ((#[] : Array Nat).push p, p + (⟨#[k]⟩ : Str).length) (by simp)
      exact congrArg Array.toList f
    · rw [if_neg (fun t => c ((subAt_one x k p).mp ⟨t.1.2, t.2⟩))]
      have ih := occ_from x k l (p + 1) free (by omega) (by omega)
      refine Eq.trans ih ?_
      by_cases q : p < x.cps.toList.length
      · have hc := List.getElem?_eq_getElem q
        have n : x.cps.toList[p] ≠ k := fun t => c (by rw [hc, t])
        rw [runEnd_step (f := fun c => decide (c ≠ k)) hc (decide_eq_true n)]
      · have h : x.cps.toList.length ≤ p := by omega
        rw [runEnd_over h, runEnd_over (by omega), if_neg (by omega), if_neg (by omega)]
/-- where the line feed from p on stands, or the end -/
def feedAt (cs : List Nat) (p : Nat) : Nat := runEnd (fun c => decide (c ≠ 10)) cs p
theorem find_feed (x : Str) (p : Nat) (hp : p ≤ x.cps.toList.length) {s : Str} (e : s = ⟨#[10]⟩) : Txt.find3 x s (p : Int) = if feedAt x.cps.toList p < x.cps.toList.length then ((feedAt x.cps.toList p : Nat) : Int) else -1 := by
  subst e
  have o := occ_from x 10 (x.length + 1 - p) p p (Nat.le_refl _) (by rw [str_len]; omega)
  unfold Txt.find3
  rw [from_nat, PySem.StrLaws.occ_eq, o]
  show (match (if feedAt x.cps.toList p < x.cps.toList.length then [feedAt x.cps.toList p] else []) with | k :: _ => (k : Int) | [] => -1) = _
  by_cases c : feedAt x.cps.toList p < x.cps.toList.length
  · rw [if_pos c, if_pos c]
  · rw [if_neg c, if_neg c]
theorem feedAt_gt {cs : List Nat} {i : Nat} (h : cs[i]? = some 47) : i < feedAt cs i := by
  have e := runEnd_step (f := fun c => decide (c ≠ 10)) h (by decide)
  have l := le_runEnd (fun c => decide (c ≠ 10)) cs (i + 1)
  unfold feedAt
  omega
theorem starts2 (x : Str) (p a b : Nat) {s : Str} (e : s = ⟨#[a, b]⟩) : Txt.startswith3 x s (p : Int) = (decide (x.cps.toList[p]? = some a) && decide (x.cps.toList[p + 1]? = some b)) := by
  subst e
  unfold Txt.startswith3
  rw [from_nat, Bool.eq_iff_iff, Bool.and_eq_true, Bool.and_eq_true, decide_eq_true_eq, decide_eq_true_eq, decide_eq_true_eq, PySem.StrLaws.subAt_eq]
  show (p + 2 ≤ x.length ∧ ((x.cps.toList.drop p).take 2 == [a, b]) = true) ↔ _
  have e0 : x.cps.toList[p]? = (x.cps.toList.drop p)[0]? := by rw [List.getElem?_drop]; rfl
  have e1 : x.cps.toList[p + 1]? = (x.cps.toList.drop p)[1]? := by rw [List.getElem?_drop]
  have el : (x.cps.toList.drop p).length = x.length - p := by rw [List.length_drop, str_len]
  rw [e0, e1, beq_iff_eq]
  generalize x.cps.toList.drop p = l at el ⊢
  match l, el with
  | [], el => simp
  | [c], el => simp
  | c :: d :: r, el =>
    simp only [List.length_cons] at el
    simp only [List.take_succ_cons, List.take_zero, List.getElem?_cons_zero, List.getElem?_cons_succ, List.cons.injEq, and_true, Option.some.injEq]
    exact ⟨fun h => h.2, fun h => ⟨by omega, h⟩⟩
/-- where the next token begins, or the end -/
def nextAt (cs : List Nat) (i : Nat) : Nat :=
  if h : cs[i]? = some 47 ∧ cs[i + 1]? = some 47 then nextAt cs (feedAt cs i)
  else if h2 : cs[i]? = some 32 ∨ cs[i]? = some 10 then nextAt cs (i + 1)
  else i
termination_by cs.length - i
decreasing_by
  · have a := feedAt_gt h.1
    have b := (List.getElem?_eq_some_iff.mp h.1).1
    omega
  · have b : i < cs.length := by
      rcases h2 with h2 | h2
      · exact (List.getElem?_eq_some_iff.mp h2).1
      · exact (List.getElem?_eq_some_iff.mp h2).1
    omega
theorem nextAt_remark {cs : List Nat} {i : Nat} (h : cs[i]? = some 47 ∧ cs[i + 1]? = some 47) : nextAt cs i = nextAt cs (feedAt cs i) := by rw [nextAt, dif_pos h]
theorem nextAt_space {cs : List Nat} {i : Nat} (h : cs[i]? = some 32 ∨ cs[i]? = some 10) : nextAt cs i = nextAt cs (i + 1) := by
  rw [nextAt, dif_neg (fun t => ?_), dif_pos h]
  rcases h with h | h
  · rw [t.1] at h
    cases h
  · rw [t.1] at h
    cases h
theorem nextAt_stop {cs : List Nat} {i : Nat} (h1 : ¬ (cs[i]? = some 47 ∧ cs[i + 1]? = some 47)) (h2 : ¬ (cs[i]? = some 32 ∨ cs[i]? = some 10)) : nextAt cs i = i := by rw [nextAt, dif_neg h1, dif_neg h2]
theorem nextAt_over {cs : List Nat} {i : Nat} (h : cs.length ≤ i) : nextAt cs i = i := by
  have e := List.getElem?_eq_none h
  exact nextAt_stop (fun t => by rw [e] at t; cases t.1) (fun t => by rw [e] at t; rcases t with t | t <;> cases t)
def spNext : Sp := fun vs H Q _ => ∃ (x : Str) (i : Nat), vs = [.str x, .int (i : Int)] ∧ x.cps.toList.length ≤ 100000 ∧ Q (.int ((nextAt x.cps.toList i : Nat) : Int)) H
theorem ok__next_start (T : Top w K mg) : FnOk P w K mg base CX0 2 (He.ga K ("_next_start" : Str)) (fdOf K d__next_start) ["source", "at"] spNext := by
  refine (T.f__next_start).ok sc__next_start (fun vs H Q E h => ?_) (fun cdv A outer s H vs Q E hr h => ?_)
  · obtain ⟨x, i, rfl, _⟩ := h
    rfl
  · obtain ⟨x, i, rfl, hx, k⟩ := h
    refine ⟨_, PSs.nox (pss_cons (ps_while PassesOwn.never (pt_cmpR op_lt (pv 1) (pe_callB call_len_str (by rfl) T.n_len PySem.boot_len (pa_cons (pv 0) pa_nil)) (nomark _))
    (pss_one (ps_if (pt_val (pe_bm PySem.F.plainAttrs_str PySem.F.slot_str_startswith PySem.F.type_str_startswith mt_startswith3 (pv 0) (pa_cons pe_str (pa_cons (pv 1) pa_nil))))
    (pss_cons (ps_set (i := 2) sc__next_start.nd rfl (Or.inl rfl) (pe_bm PySem.F.plainAttrs_str PySem.F.slot_str_find PySem.F.type_str_find mt_find3 (pv 0) (pa_cons pe_str (pa_cons (pv 1) pa_nil))))
    (pss_one (ps_set (i := 1) sc__next_start.nd rfl (Or.inl rfl) (pe_ifExp (pt_cmpR op_lt (pv 2) pe_int (nomark _)) (pe_callB call_len_str (by rfl) T.n_len PySem.boot_len (pa_cons (pv 0) pa_nil)) (pv 2)))))
    (pss_one (ps_if (pt_cmpR op_in_sign (pe_ix ix_str (pv 0) (pv 1) (fun _ _ => rfl)) pe_str (by rfl))
    (pss_one (ps_aug (i := 1) sc__next_start.nd rfl (Or.inl rfl) pe_int ip_add))
    (pss_one (ps_ret (pv 1))))))))
    (pss_one (ps_ret (pv 1)))), ?_⟩
    walk_at "go"
    refine r_while (fun m σ H' => H' = H ∧ ∃ (j : Nat) (e : Option V), σ = [some (.str x), some (.int (j : Int)), e] ∧ nextAt x.cps.toList j = nextAt x.cps.toList i ∧ m = x.cps.toList.length - j) (x.cps.toList.length - i) ⟨rfl, i, _, rfl, rfl, rfl⟩ ?_
    rintro m σ H' ⟨rfl, j, e, rfl, hj, rfl⟩
    walk_at "go"
    refine ⟨str_fits hx, ?_⟩
    walk_at "go"
    refine ite_d (fun c => ?_) (fun c => ?_)
    · have hjl : j < x.cps.toList.length := by rw [← str_len]; omega
      have hc := List.getElem?_eq_getElem hjl
      refine ⟨_, fun _ _ z => z, ?_⟩
      walk_at "go"
      refine ⟨rfl, ?_⟩
      walk_at "go"
      refine ⟨x, _, _, rfl, rfl, ?_⟩
      rw [starts2 x _ 47 47 (by decide +kernel)]
      refine ⟨_, rfl, ?_⟩
      by_cases cc : x.cps.toList[j]? = some 47 ∧ x.cps.toList[j + 1]? = some 47
      · rw [if_pos (by rw [decide_eq_true cc.1, decide_eq_true cc.2] <;> rfl)]
        walk_at "go"
        refine ⟨rfl, ?_⟩
        walk_at "go"
        refine ⟨x, _, _, rfl, rfl, ?_⟩
        rw [find_feed x j (by omega) (by decide +kernel)]
        have g := feedAt_gt cc.1
        have le : feedAt x.cps.toList j ≤ x.cps.toList.length := runEnd_le _ _ _ (by omega)
        have hn := nextAt_remark cc
        by_cases f : feedAt x.cps.toList j < x.cps.toList.length
        · rw [if_pos f]
          walk_at "go"
          exact ⟨_, Nat.sub_lt_sub_left hjl g, rfl, _, _, rfl, by rw [← hn, hj], rfl⟩
        · rw [if_neg f]
          walk_at "go"
          refine @ite_d ((-1 : Int) < 0) _ True (Int.decLt _ _) (fun c => ?_) (fun _ => trivial)
          walk_at "go"
          refine ⟨str_fits hx, ?_⟩
          walk_at "go"
          have e : x.length = feedAt x.cps.toList j := by rw [str_len]; omega
          exact ⟨_, Nat.sub_lt_sub_left hjl (by rw [e]; exact g), rfl, x.length, _, rfl, by rw [e, ← hn, hj], rfl⟩
      · rw [if_neg (by rw [Bool.and_eq_true, decide_eq_true_eq, decide_eq_true_eq]; exact cc)]
        walk_at "go"
        refine ⟨x, _, _, rfl, rfl, str_fits hx, atI_nat hc, ?_⟩
        walk_at "go"
        have e10 : (Str.ofString " \n").cps.toList = [32, 10] := by decide +kernel
        refine ite_d (fun c => ?_) (fun c => ?_)
        · rw [e10] at c
          have h : x.cps.toList[j]? = some 32 ∨ x.cps.toList[j]? = some 10 := by
            rw [hc]
            rcases List.mem_cons.mp c with c | c
            · exact .inl (by rw [c])
            · exact .inr (by rw [List.mem_singleton.mp c])
          walk_at "go"
          exact ⟨_, Nat.sub_lt_sub_left hjl (Nat.lt_succ_self j), rfl, j + 1, _, rfl, by rw [← nextAt_space h, hj], rfl⟩
        · rw [e10] at c
          have h : ¬ (x.cps.toList[j]? = some 32 ∨ x.cps.toList[j]? = some 10) := by
            rw [hc]
            rintro (t | t)
            · exact c (by rw [Option.some.inj t]; decide)
            · exact c (by rw [Option.some.inj t]; decide)
          walk_at "go"
          rw [← hj, nextAt_stop cc h] at k
          exact k
    · have hjl : x.cps.toList.length ≤ j := by rw [← str_len]; omega
      walk_at "go"
      rw [← hj, nextAt_over hjl] at k
      exact k
end
/-! ### one token -/
section
variable {P : Program} {w : World} {K : PySem.W.Frag} {mg : Str → Option Value} {base : Heap}
def keyL : List Str := ["and", "connect", "connector", "der", "discrete", "else", "end", "equation", "extends", "false", "flow", "for", "if", "in", "initial", "input", "loop", "model", "not", "or", "parameter", "pre", "reset", "sample", "size", "sum", "then", "time", "true", "when"]
def longL : List Str := ["==", "<=", ">=", "<>"]
theorem flat_strs (xs : List Str) : (xs.map V.str).all flatV = true := by
  induction xs with
  | nil => rfl
  | cons x xs ih => exact ih
def kindOf (x : Str) (c : Nat) : Str := if isL c = true then (if inV (.str x) (keyL.map V.str) = true then "key" else "word") else if isD c = true then "number" else "symbol"
def spKind : Sp := fun vs H Q _ => ∃ (x : Str) (c : Nat), vs = [.str x] ∧ x.cps.toList[0]? = some c ∧ x.cps.toList.length ≤ 100000 ∧ Q (.str (kindOf x c)) H
theorem ok__kind (T : Top w K mg) : FnOk P w K mg base CX0 2 (He.ga K ("_kind" : Str)) (fdOf K d__kind) ["text"] spKind := by
  refine (T.f__kind).ok sc__kind (fun vs H Q E h => ?_) (fun cdv A outer s H vs Q E hr h => ?_)
  · obtain ⟨x, c, rfl, _⟩ := h
    rfl
  · obtain ⟨x, c, rfl, hc, hx, k⟩ := h
    have hc0 : atI x.cps.toList 0 = some c := atI_nat (j := 0) hc
    unfold kindOf at k
    refine ⟨_, PSs.nox (pss_cons (ps_if (pt_val (pe_call (ok_is_letter (K := K) T) (hr.mono (by decide)) rfl T.g_is_letter T.f_is_letter.kp T.b_is_letter .nil pass0 (pa_cons (pe_ix ix_str (pv 0) pe_int (fun _ _ => rfl)) pa_nil)))
    (pss_one (ps_ret (pe_ifExp (pt_cmpR (op_inK (K := K) rfl) (pv 0) (pe_globE rfl T.k_KEYWORDS) (by rfl)) pe_str pe_str)))
    pss_nil)
    (pss_one (ps_ret (pe_ifExp (pt_val (pe_call (ok_is_digit (K := K) T) (hr.mono (by decide)) rfl T.g_is_digit T.f_is_digit.kp T.b_is_digit .nil pass0 (pa_cons (pe_ix ix_str (pv 0) pe_int (fun _ _ => rfl)) pa_nil))) pe_str pe_str)))), ?_⟩
    walk_at "go"
    refine ⟨x, _, _, rfl, rfl, str_fits hx, hc0, ?_⟩
    walk_at "go"
    by_cases q : isL c = true
    · rw [if_pos q]
      rw [if_pos q] at k
      walk_at "go"
      refine ⟨_, _, rfl, .inr (tupStrs_ok (xs := keyL) T.x_t_KEYWORDS (by decide)), rfl, flat_strs _, ?_⟩
      rw [if_neg (show ¬ (false = true) from by decide)]
      by_cases q2 : inV (.str x) (keyL.map V.str) = true
      · rw [if_pos q2] at k
        rw [q2]
        walk_at "go"
        exact k
      · rw [if_neg q2] at k
        rw [Bool.eq_false_iff.mpr q2]
        walk_at "go"
        exact k
    · rw [if_neg q]
      rw [if_neg q] at k
      walk_at "go"
      refine ⟨x, _, _, rfl, rfl, str_fits hx, hc0, ?_⟩
      walk_at "go"
      by_cases q2 : isD c = true
      · rw [if_pos q2]
        rw [if_pos q2] at k
        walk_at "go"
        exact k
      · rw [if_neg q2]
        rw [if_neg q2] at k
        walk_at "go"
        exact k
def symL : Str := "()[]{},;.=<>+-*/:"
def longAt (x : Str) (i : Nat) : Bool := inV (.str (cutS x (some (i : Int)) (some ((i : Int) + 2)))) (longL.map V.str)
/-- where the token that begins at i ends, or i -/
def tokEnd (x : Str) (i c : Nat) : Nat :=
  if isL c = true then (if runEnd isW x.cps.toList i ≤ i + 20 then runEnd isW x.cps.toList i else i)
  else if isD c = true then numEnd x.cps.toList i
  else if longAt x i = true then i + 2
  else if c ∈ symL.cps.toList then i + 1 else i
def spTokEnd : Sp := fun vs H Q _ => ∃ (x : Str) (i c : Nat), vs = [.str x, .int (i : Int)] ∧ x.cps.toList[i]? = some c ∧ x.cps.toList.length ≤ 100000 ∧ Q (.int ((tokEnd x i c : Nat) : Int)) H
theorem ok__end_of_token (T : Top w K mg) : FnOk P w K mg base CX0 4 (He.ga K ("_end_of_token" : Str)) (fdOf K d__end_of_token) ["source", "at"] spTokEnd := by
  refine (T.f__end_of_token).ok sc__end_of_token (fun vs H Q E h => ?_) (fun cdv A outer s H vs Q E hr h => ?_)
  · obtain ⟨x, i, c, rfl, _⟩ := h
    rfl
  · obtain ⟨x, i, c, rfl, hc, hx, k⟩ := h
    have hci : atI x.cps.toList (i : Int) = some c := atI_nat hc
    unfold tokEnd at k
    refine ⟨_, PSs.nox (pss_cons (ps_if (pt_val (pe_call (ok_is_letter (K := K) T) (hr.mono (by decide)) rfl T.g_is_letter T.f_is_letter.kp T.b_is_letter .nil pass0 (pa_cons (pe_ix ix_str (pv 0) (pv 1) (fun _ _ => rfl)) pa_nil)))
    (pss_cons (ps_set (i := 2) sc__end_of_token.nd rfl (Or.inl rfl) (pe_call (ok__end_of_word (K := K) T) (hr.mono (by decide)) rfl T.g__end_of_word T.f__end_of_word.kp T.b__end_of_word .nil pass0 (pa_cons (pv 0) (pa_cons (pv 1) pa_nil))))
    (pss_one (ps_ret (pe_ifExp (pt_cmpR op_le (pe_op op_sub (pv 2) (pv 1)) (pe_globE rfl T.i_MOST_LETTERS) (nomark _)) (pv 2) (pv 1)))))
    pss_nil)
    (pss_cons (ps_if (pt_val (pe_call (ok_is_digit (K := K) T) (hr.mono (by decide)) rfl T.g_is_digit T.f_is_digit.kp T.b_is_digit .nil pass0 (pa_cons (pe_ix ix_str (pv 0) (pv 1) (fun _ _ => rfl)) pa_nil)))
    (pss_one (ps_ret (pe_call (ok__end_of_number (K := K) T) (hr.mono (by decide)) rfl T.g__end_of_number T.f__end_of_number.kp T.b__end_of_number .nil pass0 (pa_cons (pv 0) (pa_cons (pv 1) pa_nil)))))
    pss_nil)
    (pss_cons (ps_if (pt_cmpR (op_inK (K := K) rfl) (pe_slice sl_str (pv 0) (po_some (pv 1)) (po_some (pe_op op_add (pv 1) pe_int))) (pe_globE rfl T.k_LONG_SYMBOLS) (by rfl))
    (pss_one (ps_ret (pe_op op_add (pv 1) pe_int)))
    pss_nil)
    (pss_one (ps_ret (pe_ifExp (pt_cmpR op_in_sign (pe_ix ix_str (pv 0) (pv 1) (fun _ _ => rfl)) (pe_globE rfl T.s_SYMBOLS) (by rfl)) (pe_op op_add (pv 1) pe_int) (pv 1))))))), ?_⟩
    walk_at "go"
    refine ⟨x, _, _, rfl, rfl, str_fits hx, hci, ?_⟩
    walk_at "go"
    by_cases q : isL c = true
    · rw [if_pos q]
      rw [if_pos q] at k
      walk_at "go"
      refine ite_d (fun d => ?_) (fun d => ?_)
      · rw [if_pos (by omega)] at k
        walk_at "go"
        exact k
      · rw [if_neg (by omega)] at k
        walk_at "go"
        exact k
    · rw [if_neg q]
      rw [if_neg q] at k
      walk_at "go"
      refine ⟨x, _, _, rfl, rfl, str_fits hx, hci, ?_⟩
      walk_at "go"
      by_cases q2 : isD c = true
      · rw [if_pos q2]
        rw [if_pos q2] at k
        walk_at "go"
        exact k
      · rw [if_neg q2]
        rw [if_neg q2] at k
        walk_at "go"
        refine ⟨str_fits hx, ?_⟩
        walk_at "go"
        refine ⟨_, _, rfl, .inr (tupStrs_ok (xs := longL) T.x_t_LONG_SYMBOLS (by decide)), rfl, flat_strs _, ?_⟩
        rw [if_neg (show ¬ (false = true) from by decide)]
        unfold longAt at k
        by_cases q3 : inV (.str (cutS x (some (i : Int)) (some ((i : Int) + 2)))) (longL.map V.str) = true
        · rw [if_pos q3] at k
          rw [q3]
          walk_at "go"
          exact k
        · rw [if_neg q3] at k
          rw [Bool.eq_false_iff.mpr q3]
          walk_at "go"
          refine ⟨x, _, _, rfl, rfl, str_fits hx, hci, ?_⟩
          walk_at "go"
          refine ite_d (fun d => ?_) (fun d => ?_)
          · rw [if_pos (show c ∈ symL.cps.toList from d)] at k
            walk_at "go"
            exact k
          · rw [if_neg (show ¬ c ∈ symL.cps.toList from d)] at k
            walk_at "go"
            exact k
/-- the text from i to e -/
def piece (x : Str) (i e : Nat) : Str := cutS x (some (i : Int)) (some (e : Int))
/-- the tokens from i on (i no gap), and where they stop -/
def scan (x : Str) : Nat → Nat → List (Str × Str × Nat) × Nat
  | 0, i => ([], i)
  | n + 1, i => match x.cps.toList[i]? with
    | none => ([], x.cps.toList.length)
    | some c =>
      if tokEnd x i c = i then ([], i)
      else
        let r := scan x n (nextAt x.cps.toList (tokEnd x i c))
        ((kindOf (piece x i (tokEnd x i c)) c, piece x i (tokEnd x i c), i) :: r.1, r.2)
theorem le_nextAt (cs : List Nat) : ∀ (m i : Nat), cs.length - i ≤ m → i ≤ nextAt cs i := by
  intro m
  induction m with
  | zero =>
    intro i h
    rw [nextAt_over (by omega)]
    exact Nat.le_refl _
  | succ m ih =>
    intro i h
    by_cases h1 : cs[i]? = some 47 ∧ cs[i + 1]? = some 47
    · have g := feedAt_gt h1.1
      have l := (List.getElem?_eq_some_iff.mp h1.1).1
      rw [nextAt_remark h1]
      have := ih (feedAt cs i) (by omega)
      omega
    · by_cases h2 : cs[i]? = some 32 ∨ cs[i]? = some 10
      · rw [nextAt_space h2]
        have := ih (i + 1) (by omega)
        omega
      · rw [nextAt_stop h1 h2]
        exact Nat.le_refl _
theorem le_numEnd (cs : List Nat) (i : Nat) : i ≤ numEnd cs i := by
  unfold numEnd
  have a := le_runEnd isD cs i
  generalize runEnd isD cs i = p at a ⊢
  have b : p ≤ cutAt p (behind cs p) := by
    unfold cutAt
    split
    · exact Nat.le_refl _
    · omega
  dsimp only
  split <;> omega
theorem le_tokEnd (x : Str) (i c : Nat) : i ≤ tokEnd x i c := by
  unfold tokEnd
  have a := le_runEnd isW x.cps.toList i
  have b := le_numEnd x.cps.toList i
  repeat' split
  all_goals omega
theorem piece_head {x : Str} {i e c : Nat} (h : x.cps.toList[i]? = some c) (he : i < e) : (piece x i e).cps.toList[0]? = some c := by
  obtain ⟨hi, hc⟩ := List.getElem?_eq_some_iff.mp h
  have hl := str_len x
  unfold piece cutS
  rw [HT.sIx_nat, HT.sIx_nat, List.toList_toArray, Nat.min_eq_left (show i ≤ x.length from by omega), List.drop_eq_getElem_cons hi, hc]
  rw [show min e x.length - i = (min e x.length - i - 1) + 1 from by omega, List.take_succ_cons]
  rfl
theorem piece_len (x : Str) (i e : Nat) : (piece x i e).cps.toList.length ≤ x.cps.toList.length := by
  unfold piece cutS
  rw [List.length_take, List.length_drop]
  omega
end
section
variable {P : Program} {w : World} {K : PySem.W.Frag} {mg : Str → Option Value} {base : Heap}
/-- the tuples of the tokens -/
def TokL (H : Hp) (l : List Addr) (ts : List (Str × Str × Nat)) : Prop := Paired (fun (a : Addr) (t : Str × Str × Nat) => H a = some (.tup [.str t.1, .str t.2.1, .int (t.2.2 : Int)])) l ts
theorem TokL.mono {H H' : Hp} (e : Same H H') : ∀ {l : List Addr} {ts : List (Str × Str × Nat)}, TokL H l ts → TokL H' l ts
  | [], [], .nil => .nil
  | _ :: _, _ :: _, .cons a b => .cons (e _ _ a) (TokL.mono e b)
theorem TokL.snoc {H : Hp} {a : Addr} {t : Str × Str × Nat} (h : H a = some (.tup [.str t.1, .str t.2.1, .int (t.2.2 : Int)])) : ∀ {l : List Addr} {ts : List (Str × Str × Nat)}, TokL H l ts → TokL H (l ++ [a]) (ts ++ [t])
  | [], [], .nil => .cons h .nil
  | _ :: _, _ :: _, .cons b c => .cons b (TokL.snoc h c)
theorem TokL.upd {H : Hp} {q : Addr} {o : HO} {xs : List V} (h : H q = some (.lst xs)) : ∀ {l : List Addr} {ts : List (Str × Str × Nat)}, TokL H l ts → TokL (upd H q o) l ts
  | [], [], .nil => .nil
  | _ :: _, _ :: _, .cons a b => .cons (by rw [upd_ne (ne_of a h (by intro z; cases z))]; exact a) (TokL.upd h b)
def spUntil : Sp := fun vs H Q _ => ∃ x : Str, vs = [.str x] ∧ x.cps.toList.length ≤ 100000 ∧
  ∀ p l as H', Same H H' → H l = none → H' p = some (.tup [.ref l, .int (((scan x (x.cps.toList.length + 1) (nextAt x.cps.toList 0)).2 : Nat) : Int)]) → H' l = some (.lst (as.map V.ref)) → TokL H' as (scan x (x.cps.toList.length + 1) (nextAt x.cps.toList 0)).1 → Q (.ref p) H'
theorem ok_tokens_until (T : Top w K mg) : FnOk P w K mg base CX0 5 (He.ga K ("tokens_until" : Str)) (fdOf K d_tokens_until) ["source"] spUntil := by
  refine (T.f_tokens_until).ok sc_tokens_until (fun vs H Q E h => ?_) (fun cdv A outer s H vs Q E hr h => ?_)
  · obtain ⟨x, rfl, _⟩ := h
    rfl
  · obtain ⟨x, rfl, hx, k⟩ := h
    refine ⟨_, PSs.nox (pss_cons (ps_set (i := 1) sc_tokens_until.nd rfl (Or.inl rfl) (pe_lst pa_nil))
    (pss_cons (ps_set (i := 2) sc_tokens_until.nd rfl (Or.inl rfl) (pe_call (ok__next_start (K := K) T) (hr.mono (by decide)) rfl T.g__next_start T.f__next_start.kp T.b__next_start .nil pass0 (pa_cons (pv 0) (pa_cons pe_int pa_nil))))
    (pss_cons (ps_while PassesOwn.never (pt_cmpR op_lt (pv 2) (pe_callB call_len_str (by rfl) T.n_len PySem.boot_len (pa_cons (pv 0) pa_nil)) (nomark _))
    (pss_cons (ps_set (i := 3) sc_tokens_until.nd rfl (Or.inl rfl) (pe_call (ok__end_of_token (K := K) T) (hr.mono (by decide)) rfl T.g__end_of_token T.f__end_of_token.kp T.b__end_of_token .nil pass0 (pa_cons (pv 0) (pa_cons (pv 2) pa_nil))))
    (pss_cons (ps_if (pt_cmpR op_eq (pv 3) (pv 2) (nomark _))
    (pss_one (ps_ret (pe_tup (pa_cons (pv 1) (pa_cons (pv 2) pa_nil)))))
    pss_nil)
    (pss_cons (ps_set (i := 4) sc_tokens_until.nd rfl (Or.inl rfl) (pe_slice sl_str (pv 0) (po_some (pv 2)) (po_some (pv 3))))
    (pss_cons (ps_expr (pe_bm PySem.F.plainAttrs_list PySem.F.slot_list_append PySem.F.type_list_append mt_append (pv 1) (pa_cons (pe_tup (pa_cons (pe_call (ok__kind (K := K) T) (hr.mono (by decide)) rfl T.g__kind T.f__kind.kp T.b__kind .nil pass0 (pa_cons (pv 4) pa_nil)) (pa_cons (pv 4) (pa_cons (pv 2) pa_nil)))) pa_nil)))
    (pss_one (ps_set (i := 2) sc_tokens_until.nd rfl (Or.inl rfl) (pe_call (ok__next_start (K := K) T) (hr.mono (by decide)) rfl T.g__next_start T.f__next_start.kp T.b__next_start .nil pass0 (pa_cons (pv 0) (pa_cons (pv 3) pa_nil))))))))))
    (pss_one (ps_ret (pe_tup (pa_cons (pv 1) (pa_cons (pe_callB call_len_str (by rfl) T.n_len PySem.boot_len (pa_cons (pv 0) pa_nil)) pa_nil)))))))), ?_⟩
    walk_at "go"
    intro l hl
    walk_at "go"
    generalize hi0 : nextAt x.cps.toList 0 = i0 at k ⊢
    refine r_while (fun m σ H' => ∃ (j : Nat) (as : List Addr) (ts : List (Str × Str × Nat)) (e t : Option V), σ = [some (.str x), some (.ref l), some (.int (j : Int)), e, t] ∧ Same H H' ∧ H' l = some (.lst (as.map V.ref)) ∧ TokL H' as ts ∧
      scan x (x.cps.toList.length + 1) i0 = (ts ++ (scan x m j).1, (scan x m j).2) ∧ x.cps.toList.length - j < m ∧ as.length ≤ j) (x.cps.toList.length + 1) ⟨i0, [], [], _, _, rfl, same_new hl, upd_same, .nil, rfl, by omega, Nat.zero_le _⟩ ?_
    rintro m σ H' ⟨j, as, ts, e, t, rfl, e1, hl1, tk, sc, hm, ha⟩
    obtain ⟨m, rfl⟩ : ∃ m', m = m' + 1 := ⟨m - 1, by omega⟩
    walk_at "go"
    refine ⟨str_fits hx, ?_⟩
    walk_at "go"
    refine ite_d (fun c => ?_) (fun c => ?_)
    · have hjl : j < x.cps.toList.length := by rw [← str_len]; omega
      have hc := List.getElem?_eq_getElem hjl
      generalize x.cps.toList[j] = ch at hc
      refine ⟨_, fun _ _ z => z, ?_⟩
      walk_at "go"
      refine ⟨x, j, ch, rfl, hc, hx, ?_⟩
      walk_at "go"
      refine ite_d (fun d => ?_) (fun d => ?_)
      · have d' : tokEnd x j ch = j := Int.ofNat.inj (vint_inj d)
        have en : scan x (m + 1) j = ([], j) := by
          rw [scan, hc]
          exact if_pos d'
        rw [en] at sc
        rw [sc, List.append_nil] at k
        walk_at "go"
        exact ⟨by show 2 ≤ sizeLine; decide, fun p hp => k p l as _ (e1.trans (same_new hp)) hl upd_same (by rw [upd_ne (ne_of_none hl1 hp)]; exact hl1) (tk.mono (same_new hp))⟩
      · have d' : ¬ tokEnd x j ch = j := fun z => d (by rw [z])
        have lt : j < tokEnd x j ch := Nat.lt_of_le_of_ne (le_tokEnd x j ch) (fun z => d' z.symm)
        have en : scan x (m + 1) j = ((kindOf (piece x j (tokEnd x j ch)) ch, piece x j (tokEnd x j ch), j) :: (scan x m (nextAt x.cps.toList (tokEnd x j ch))).1, (scan x m (nextAt x.cps.toList (tokEnd x j ch))).2) := by
          rw [scan, hc]
          exact if_neg d'
        rw [en] at sc
        have ph := piece_head hc lt
        have pl := piece_len x j (tokEnd x j ch)
        have nx := le_nextAt x.cps.toList _ (tokEnd x j ch) (Nat.le_refl _)
        clear en
        generalize tokEnd x j ch = ee at *
        walk_at "go"
        refine ⟨str_fits hx, ?_⟩
        walk_at "go"
        refine ⟨.inl ⟨rfl, _, SqL.of hl1⟩, ?_⟩
        walk_at "go"
        refine ⟨_, ch, rfl, ph, Nat.le_trans pl hx, ?_⟩
        walk_at "go"
        refine ⟨by show 3 ≤ sizeLine; decide, fun p hp => ?_⟩
        walk_at "go"
        have hlp : l ≠ p := ne_of_none hl1 hp
        refine ⟨l, _, _, rfl, rfl, by rw [upd_ne hlp]; exact hl1, by rw [List.length_map, sizeLine_eq]; omega, ?_⟩
        walk_at "go"
        refine ⟨m, Nat.lt_succ_self m, nextAt x.cps.toList ee, as ++ [p], ts ++ [(kindOf (piece x j ee) ch, piece x j ee, j)], _, _, rfl, ?_, ?_, ?_, ?_, by omega, by rw [List.length_append, List.length_singleton]; omega⟩
        · intro b u hb
          rw [upd_ne (ne_of_none hb hl), upd_ne (ne_of_none (e1 _ _ hb) hp)]
          exact e1 _ _ hb
        · rw [upd_same, List.map_append]
          rfl
        · exact TokL.snoc (by rw [upd_ne (Ne.symm hlp), upd_same] <;> rfl) (TokL.upd (by rw [upd_ne hlp]; exact hl1) (tk.mono (same_new hp)))
        · rw [sc, List.append_assoc]
          rfl
    · have hjl : x.cps.toList.length ≤ j := by rw [← str_len]; omega
      have en : scan x (m + 1) j = ([], x.cps.toList.length) := by
        rw [scan, List.getElem?_eq_none hjl]
      rw [en] at sc
      rw [sc, List.append_nil] at k
      walk_at "go"
      refine ⟨str_fits hx, ?_⟩
      walk_at "go"
      rw [← str_len] at k
      exact ⟨by show 2 ≤ sizeLine; decide, fun p hp => k p l as _ (e1.trans (same_new hp)) hl upd_same (by rw [upd_ne (ne_of_none hl1 hp)]; exact hl1) (tk.mono (same_new hp))⟩
/-- the whole of a source: its tokens, and where they stop -/
def lexed (x : Str) : List (Str × Str × Nat) × Nat := scan x (x.cps.toList.length + 1) (nextAt x.cps.toList 0)
def spTokens (K : PySem.W.Frag) : Sp := fun vs H Q E => ∃ x : Str, vs = [.str x] ∧ x.cps.toList.length ≤ 100000 ∧
  ((lexed x).2 < x.cps.toList.length → ∀ d H', Same H H' → H d = none → H' d = some (.xd [("at", .int (((lexed x).2 : Nat) : Int))]) → E (.ref (He.ga K "BadText")) (some d) H') ∧
  (¬ (lexed x).2 < x.cps.toList.length → ∀ l as H', Same H H' → H l = none → H' l = some (.lst (as.map V.ref)) → TokL H' as (lexed x).1 → Q (.ref l) H')
theorem ok_tokens (T : Top w K mg) : FnOk P w K mg base (L2.CX P w) 6 (He.ga K ("tokens" : Str)) (fdOf K d_tokens) ["source"] (spTokens K) := by
  refine (T.f_tokens).ok sc_tokens (fun vs H Q E h => ?_) (fun cdv A outer s H vs Q E hr h => ?_)
  · obtain ⟨x, rfl, _⟩ := h
    rfl
  · obtain ⟨x, rfl, hx, kb, kg⟩ := h
    refine ⟨_, (pss_cons (ps_asg (pe_call (ok_tokens_until (K := K) T) (hr.mono (by decide)) rfl T.g_tokens_until T.f_tokens_until.kp T.b_tokens_until .nil pass0 (pa_cons (pv 0) pa_nil)) (pg_tup (by rfl) (pgs_cons (pg_name (i := 1) sc_tokens.nd rfl (Or.inl rfl)) (pgs_cons (pg_name (i := 2) sc_tokens.nd rfl (Or.inl rfl)) pgs_nil))))
    (pss_cons (ps_if (pt_cmpR op_lt (pv 2) (pe_callB call_len_str (by rfl) T.n_len PySem.boot_len (pa_cons (pv 0) pa_nil)) (nomark _))
    (pss_one (ps_raise rfl (takes_of rfl rfl rfl rfl) (pmk_oex (oexB_ok T.x_oex_BadText).1 (oexB_ok T.x_oex_BadText).2.1 (oexB_ok T.x_oex_BadText).2.2 (ok_BadText___init__ (K := K) T) (hr.mono (by decide)) T.b_BadText___init__ .nil pass0 rfl T.g_BadText (pa_cons (pv 2) pa_nil))))
    pss_nil)
    (pss_one (ps_ret (pv 1))))), ?_⟩
    walk_at "go"
    intro p l as H' e1 hl hp hl1 tk
    change H' p = some (HO.tup [V.ref l, V.int (((lexed x).2 : Nat) : Int)]) at hp
    change TokL H' as (lexed x).1 at tk
    refine ⟨p, _, rfl, SqT.of hp, rfl, ?_⟩
    walk_at "go"
    refine ⟨str_fits hx, ?_⟩
    walk_at "go"
    have el : x.length = x.cps.toList.length := str_len x
    refine ite_d (fun c => ?_) (fun c => ?_)
    · have c' : (lexed x).2 < x.cps.toList.length := by omega
      refine r_raiseE (C := He.ga K "BadText") (f := "at") (ok := okIx) ?_ (fun P P' h t => by
        obtain ⟨v, e, t⟩ := t
        exact ⟨v, e, h _ _ t⟩)
      have small : ((((lexed x).2 : Nat) : Int)).natAbs.log2 < 1920 := by
        have h : (((lexed x).2 : Nat) : Int).natAbs < 2 ^ 20 := by omega
        exact Nat.lt_of_lt_of_le (PySem.Flt.log2_lt_of (by decide) h) (by decide)
      walk_at "go"
      exact ⟨⟨_, rfl, small⟩, fun d hd => kb c' d _ (e1.trans (same_new hd)) (e1.free hd) upd_same⟩
    · walk_at "go"
      exact kg (by omega) l as H' e1 hl hl1 tk
end
/-! ### the law's own helpers: the stream -/
def spStream (K : PySem.W.Frag) : Sp := fun vs H Q _ => ∃ (a : Addr) (ns : List Int), vs = [.ref a] ∧ SqL K H a (ns.map V.int) ∧ ns.length ≤ 63 ∧ ∀ s H', Same H H' → Strm H' s → Q (.ref s) H'
def spDraw : Sp := fun vs H Q _ => ∃ (s : Addr) (n : Int), vs = [.ref s, .int n] ∧ Strm H s ∧ 0 < n ∧ n < 18446744073709551616 ∧ ∀ v, 0 ≤ v → v < n → Q (.int v) H
section
variable {P : Program} {w : World} {K : PySem.W.Frag} {mg : Str → Option Value} {base : Heap}
theorem small31 {i : Int} (h0 : 0 ≤ i) (h : i < 2147483648) : i.natAbs < 2 ^ 31 := by omega
theorem mulW31 {i j : Int} (h0 : 0 ≤ i) (h : i < 2147483648) (h2 : 0 ≤ j) (h3 : j < 2147483648) : CMulW i j := wide_mul (a := 31) (b := 31) (by omega) (by omega) (by decide) (by decide) (by decide)
theorem item_int {ns : List Int} {i : Nat} {x : V} (h : (ns.map V.int)[i]? = some x) : ∃ z, ns[i]? = some z ∧ x = .int z := by
  rw [List.getElem?_map] at h
  cases e : ns[i]? with
  | none => rw [e] at h; cases h
  | some z => rw [e] at h; exact ⟨z, rfl, (Option.some.inj h).symm⟩
theorem atI_ints {ns : List Int} {j : Int} (h0 : 0 ≤ j) (h : j < ((ns.map V.int).length : Int)) : ∃ z, atI (ns.map V.int) j = some (.int z) := by
  rw [List.length_map] at h
  have hk : j.toNat < ns.length := by omega
  have e : j = ((j.toNat : Nat) : Int) := by omega
  refine ⟨ns[j.toNat], ?_⟩
  have q : atI (ns.map V.int) ((j.toNat : Nat) : Int) = some (.int ns[j.toNat]) := atI_nat (by rw [List.getElem?_map, List.getElem?_eq_getElem hk] <;> rfl)
  rw [← e] at q
  exact q
theorem ok__law_draw (T : Top w K mg) : FnOk P w K mg base CX0 1 (He.ga K ("_law_draw" : Str)) (fdOf K d__law_draw) ["stream", "many"] spDraw := by
  refine (T.f__law_draw).ok sc__law_draw (fun vs H Q E h => ?_) (fun cdv A outer s H vs Q E hr h => ?_)
  · obtain ⟨a, n, rfl, _⟩ := h
    rfl
  · obtain ⟨s0, n, rfl, ⟨l, ns, hs, hl, h63⟩, h0, h1, k⟩ := h
    refine ⟨_, PSs.nox (pss_open s0 l (C8.pss_cut (ps_if (PW.pt (pw_and (pt_cmpR op_eq (pe_ix (ix_listK (K := K) rfl) (pv 0) pe_int (fun _ _ => rfl)) pe_int (nomark _)) (pw_and1 (pt_cmpR op_lt (pe_ix (ix_listK (K := K) rfl) (pv 0) pe_int (fun _ _ => rfl)) (pe_callB (call_lenK (K := K) rfl) (by rfl) T.n_len PySem.boot_len (pa_cons (pe_ix (ix_listK (K := K) rfl) (pv 0) pe_int (fun _ _ => rfl)) pa_nil)) (nomark _)))))
    (pss_cons (ps_asg (pe_callB call_abs (by rfl) T.n_abs (by decide +kernel) (pa_cons (pe_callTy call_int1 (by rfl) T.n_int (by decide +kernel) (pa_cons (pe_ix (ix_listK (K := K) rfl) (pe_ix (ix_listK (K := K) rfl) (pv 0) pe_int (fun _ _ => rfl)) (pe_ix (ix_listK (K := K) rfl) (pv 0) pe_int (fun _ _ => rfl)) (fun _ _ => rfl)) pa_nil)) pa_nil)) (pg_sub (pv 0) pe_int set_list))
    (pss_one (ps_asg (pe_op op_add (pe_ix (ix_listK (K := K) rfl) (pv 0) pe_int (fun _ _ => rfl)) pe_int) (pg_sub (pv 0) pe_int set_list))))
    pss_nil)
    (pss_cons (ps_if (pt_cmpR op_eq (pe_ix (ix_listK (K := K) rfl) (pv 0) pe_int (fun _ _ => rfl)) pe_int (nomark _))
    (pss_cons (ps_asg (pe_op op_mod (pe_callTy call_int1 (by rfl) T.n_int (by decide +kernel) (pa_cons (pe_op op_add (pe_op op_mulW (pe_ix (ix_listK (K := K) rfl) (pv 0) pe_int (fun _ _ => rfl)) pe_int) pe_int) pa_nil)) pe_int) (pg_sub (pv 0) pe_int set_list))
    (pss_one (ps_ret (pe_op op_mod (pe_callTy call_int1 (by rfl) T.n_int (by decide +kernel) (pa_cons (pe_op op_fdivG (pe_ix (ix_listK (K := K) rfl) (pv 0) pe_int (fun _ _ => rfl)) pe_int) pa_nil)) (pv 1)))))
    pss_nil)
    (pss_cons (ps_set (i := 2) sc__law_draw.nd rfl (Or.inl rfl) (pe_op op_mod (pe_callTy call_int1 (by rfl) T.n_int (by decide +kernel) (pa_cons (pe_ix (ix_listK (K := K) rfl) (pv 0) pe_int (fun _ _ => rfl)) pa_nil)) (pv 1)))
    (pss_cons (ps_asg (pe_op op_fdivG (pe_ix (ix_listK (K := K) rfl) (pv 0) pe_int (fun _ _ => rfl)) (pv 1)) (pg_sub (pv 0) pe_int set_list))
    (pss_one (ps_ret (pv 2)))))))), ?_⟩
    refine r_open hs (fun i j m hj => ?_)
    have hls : l ≠ s0 := ne_of hl hs (by intro z; cases z)
    refine r_cut (fun σ H' => σ = [some (.ref s0), some (.int n), none] ∧ ∃ i j, okS j m ∧ H' = upd H s0 (.lst (cellsV l i j m))) ?_ ?_
    · have hl' : ∀ o, SqL K (upd H s0 o) l (ns.map V.int) := fun o => SqL.of (by rw [upd_ne hls]; exact hl)
      walk_at "go"
      refine ite_d (fun c1 => ?_) (fun c1 => ?_)
      · walk_at "go"
        refine ⟨_, _, rfl, .inl (hl' _), ?_⟩
        walk_at "go"
        refine ite_d (fun c2 => ?_) (fun c2 => ?_)
        · obtain ⟨z, hz⟩ := atI_ints hj.1 c2
          walk_at "go"
          refine r_ixL (hl' _) hz ?_
          walk_at "go"
          exact ⟨rfl, _, j + 1, ⟨by have := hj.1; omega, hj.2⟩, by rw [upd_upd, upd_upd] <;> rfl⟩
        · walk_at "go"
          exact ⟨rfl, i, j, hj, rfl⟩
      · walk_at "go"
        exact ⟨rfl, i, j, hj, rfl⟩
    · rintro σ H' ⟨rfl, i, j, hj, rfl⟩
      walk_at "go"
      refine ite_d (fun c1 => ?_) (fun c1 => ?_)
      · walk_at "go"
        refine ⟨mulW31 hj.2.1 hj.2.2 (by decide) (by decide), ?_⟩
        walk_at "go"
        refine ⟨cdivG (b := 64) (by omega) (by omega) (by decide) (by decide), ?_⟩
        walk_at "go"
        refine ⟨i, j, (m * 48271 + 11) % 2147483647, upd_same, ⟨hj.1, by omega, by omega⟩, ?_⟩
        rw [upd_back2 hs]
        exact k _ (Int.emod_nonneg _ (by omega)) (Int.emod_lt_of_pos _ h0)
      · walk_at "go"
        refine ⟨cdivG (b := 64) (by omega) (by omega) (by decide) (by decide), ?_⟩
        walk_at "go"
        refine ⟨i.fdiv n, j, m, upd_same, hj, ?_⟩
        rw [upd_back2 hs]
        exact k _ (Int.emod_nonneg _ (by omega)) (Int.emod_lt_of_pos _ h0)
/-- a draw: any number below -/
theorem draw_at {s : Addr} {n : Int} {H : Hp} {Q : VK} {E : XK} (hS : Strm H s) (h0 : 0 < n) (h1 : n < 18446744073709551616) (k : ∀ v, 0 ≤ v → v < n → Q (.int v) H) : spDraw [.ref s, .int n] H Q E := ⟨s, n, rfl, hS, h0, h1, k⟩
theorem ok__law_stream (T : Top w K mg) : FnOk P w K mg base CX0 1 (He.ga K ("_law_stream" : Str)) (fdOf K d__law_stream) ["script"] (spStream K) := by
  refine (T.f__law_stream).ok sc__law_stream (fun vs H Q E h => ?_) (fun cdv A outer s H vs Q E hr h => ?_)
  · obtain ⟨a, n, rfl, _⟩ := h
    rfl
  · obtain ⟨a, ns, rfl, hS, h63, k⟩ := h
    refine ⟨_, PSs.nox (pss_shut (pss_cons (ps_set (i := 1) sc__law_stream.nd rfl (Or.inl rfl) pe_int)
    (pss_cons (ps_for PassesOwn.never rfl (pi_listK (K := K) rfl (pv 0)) (pg_name (i := 2) sc__law_stream.nd rfl (Or.inl rfl))
    (pss_one (ps_set (i := 1) sc__law_stream.nd rfl (Or.inl rfl) (pe_op op_mod (pe_callTy call_int1 (by rfl) T.n_int (by decide +kernel) (pa_cons (pe_op op_add (pe_op op_add (pe_op op_mulW (pv 1) pe_int) (pe_op op_mod (pe_callTy call_int1 (by rfl) T.n_int (by decide +kernel) (pa_cons (pv 2) pa_nil)) pe_int)) pe_int) pa_nil)) pe_int))))
    (pss_one (ps_ret (pe_lst (pa_cons (pe_callTy (call_listK (K := K) rfl) (by rfl) T.n_list (by decide +kernel) (pa_cons (pv 0) pa_nil)) (pa_cons pe_int (pa_cons pe_int (pa_cons (pv 1) pa_nil)))))))))), ?_⟩
    refine r_shut ?_
    walk_at "go"
    refine ⟨⟨_, hS⟩, for_lst (xs := ns.map V.int) (fun i σ H' => H' = H ∧ ∃ (m : Int) (v : Option V), σ = [some (.ref a), some (.int m), v] ∧ 0 ≤ m ∧ m < 2147483648) ⟨rfl, 17, none, rfl, by omega, by omega⟩ (fun i σ H' _ h => by rw [h.1]; exact hS) ?_ ?_⟩
    · rintro i x σ H' hx ⟨rfl, m, v, rfl, h0, h1⟩
      obtain ⟨z, hz, rfl⟩ := item_int hx
      walk_at "go"
      refine ⟨mulW31 h0 h1 (by decide) (by decide), ?_⟩
      walk_at "go"
      exact ⟨rfl, _, _, rfl, Int.emod_nonneg _ (by omega), by show _ % (2147483647 : Int) < _; omega⟩
    · rintro σ H' ⟨rfl, m, v, rfl, h0, h1⟩
      walk_at "go"
      refine ⟨_, _, rfl, .inl hS, fun l hl => ?_⟩
      walk_at "go"
      refine ⟨by show 4 ≤ sizeLine; decide, fun p hp => ?_⟩
      have hlp : l ≠ p := ne_of_none upd_same hp
      have s1 : Same H' (upd H' l (.lst (ns.map V.int))) := same_new hl
      have hp0 : H' p = none := s1.free hp
      refine ⟨p, l, 0, 0, m, rfl, upd_same, ⟨by omega, h0, h1⟩, k p _ (fun b o e => ?_) ⟨l, ns, upd_same, by rw [upd_ne hlp, upd_ne hlp, upd_same], h63⟩⟩
      rw [upd_ne (ne_of_none e hp0), upd_ne (ne_of_none e hp0)]
      exact s1 b o e
end
section
def signsF (s : Str) : Nat → Bool := fun c => decide (c ∈ s.cps.toList)
theorem digits_isD : signsF "0123456789" = isD := by
  funext c
  unfold signsF isD
  rw [show (Str.ofString "0123456789").cps.toList = [48, 49, 50, 51, 52, 53, 54, 55, 56, 57] from by decide +kernel]
  rw [Bool.eq_iff_iff, decide_eq_true_eq, Bool.and_eq_true, decide_eq_true_eq, decide_eq_true_eq]
  simp only [List.mem_cons, List.not_mem_nil, or_false]
  omega
theorem inV_strs (c : Str) (l : List Str) : inV (.str c) (l.map V.str) = decide (c ∈ l) := by
  induction l with
  | nil => rfl
  | cons y l ih =>
    show (eqV (V.str y) (V.str c) || inV (.str c) (l.map V.str)) = _
    rw [ih]
    show ((y == c) || _) = _
    rw [Bool.eq_iff_iff, Bool.or_eq_true, beq_iff_eq, decide_eq_true_eq, decide_eq_true_eq, List.mem_cons]
    exact ⟨fun h => h.imp Eq.symm id, fun h => h.imp Eq.symm id⟩
theorem piece_one {x : Str} {i c : Nat} (h : x.cps.toList[i]? = some c) : piece x i (i + 1) = ⟨#[c]⟩ := by
  obtain ⟨hi, hc⟩ := List.getElem?_eq_some_iff.mp h
  have hl := str_len x
  unfold piece cutS
  rw [HT.sIx_nat, HT.sIx_nat, Nat.min_eq_left (show i ≤ x.length from by omega), Nat.min_eq_left (show i + 1 ≤ x.length from by omega), List.drop_eq_getElem_cons hi, hc]
  rw [show i + 1 - i = 0 + 1 from by omega, List.take_succ_cons]
  rfl
theorem piece_two (x : Str) (i : Nat) : piece x i (i + 2) = cutS x (some (i : Int)) (some ((i : Int) + 2)) := rfl
theorem long_len {y : Str} (h : y ∈ longL) : y.length = 2 := by
  unfold longL at h
  simp only [List.mem_cons, List.not_mem_nil, or_false] at h
  rcases h with h | h | h | h <;> (rw [h]; decide +kernel)
theorem scan_some {x : Str} {m i c : Nat} (hc : x.cps.toList[i]? = some c) : scan x (m + 1) i = if tokEnd x i c = i then ([], i) else ((kindOf (piece x i (tokEnd x i c)) c, piece x i (tokEnd x i c), i) :: (scan x m (nextAt x.cps.toList (tokEnd x i c))).1, (scan x m (nextAt x.cps.toList (tokEnd x i c))).2) := by
  rw [scan, hc]
theorem scan_none {x : Str} {m i : Nat} (h : x.cps.toList.length ≤ i) : scan x (m + 1) i = ([], x.cps.toList.length) := by
  rw [scan, List.getElem?_eq_none h]
def spKeys : Sp := fun vs H Q _ => vs = [] ∧ ∀ l H', Same H H' → H l = none → H' l = some (.lst (keyL.map V.str)) → Q (.ref l) H'
theorem keys_split : Txt.split ((Str.ofString "and connect connector der discrete else end equation extends false flow for if in initial input loop") ++ (Str.ofString " model not or parameter pre reset sample size sum then time true when")) (Str.ofString " ") = keyL := by decide +kernel
def letS : Str := "abcdefghijklmnopqrstuvwxyzABCDEFGHIJKLMNOPQRSTUVWXYZ"
theorem letS_cps : letS.cps.toList = (List.range 26).map (· + 97) ++ (List.range 26).map (· + 65) := by decide +kernel
theorem let_isL (c : Nat) : c ∈ letS.cps.toList ↔ isL c = true := by
  rw [letS_cps]
  unfold isL
  simp only [List.mem_append, List.mem_map, List.mem_range, Bool.or_eq_true, Bool.and_eq_true, decide_eq_true_eq]
  constructor
  · rintro (⟨a, h, rfl⟩ | ⟨a, h, rfl⟩)
    · exact .inl ⟨by omega, by omega⟩
    · exact .inr ⟨by omega, by omega⟩
  · rintro (h | h)
    · exact .inl ⟨c - 97, by omega, by omega⟩
    · exact .inr ⟨c - 65, by omega, by omega⟩
theorem dig_isD (c : Nat) : c ∈ (Str.ofString "0123456789").cps.toList ↔ isD c = true := by
  rw [← digits_isD]
  exact (decide_eq_true_iff).symm
theorem let_isW : signsF (letS ++ Str.ofString "0123456789_") = isW := by
  funext c
  unfold signsF isW
  rw [Str.cps_append, Array.toList_append, Bool.eq_iff_iff, decide_eq_true_eq, List.mem_append, let_isL]
  rw [show (Str.ofString "0123456789_").cps.toList = (Str.ofString "0123456789").cps.toList ++ [95] from by decide +kernel, List.mem_append, dig_isD, List.mem_singleton]
  rw [Bool.or_eq_true, Bool.or_eq_true, decide_eq_true_eq, or_assoc]
theorem cut_two (x : Str) (i a b : Nat) {s : Str} (e : s = ⟨#[a, b]⟩) : cutS x (some (i : Int)) (some ((i : Int) + 2)) = s ↔ x.cps.toList[i]? = some a ∧ x.cps.toList[i + 1]? = some b := by
  subst e
  have el := str_len x
  have u : cutS x (some (i : Int)) (some ((i : Int) + 2)) = piece x i (i + 2) := rfl
  rw [u]
  unfold piece cutS
  rw [HT.sIx_nat, HT.sIx_nat]
  have e0 : x.cps.toList[i]? = (x.cps.toList.drop i)[0]? := by rw [List.getElem?_drop]; rfl
  have e1 : x.cps.toList[i + 1]? = (x.cps.toList.drop i)[1]? := by rw [List.getElem?_drop]
  have k : ∀ l : List Nat, ((⟨l.toArray⟩ : Str) = ⟨#[a, b]⟩) ↔ l = [a, b] := by
    intro l
    constructor
    · intro h
      have h2 := congrArg (fun z : Str => z.cps.toList) h
      simpa using h2
    · intro h
      rw [h]
  rw [e0, e1, k]
  by_cases hi : i ≤ x.length
  · rw [Nat.min_eq_left hi]
    have ld : (x.cps.toList.drop i).length = x.length - i := by rw [List.length_drop, el]
    generalize x.cps.toList.drop i = l at *
    have q : min (i + 2) x.length - i = min 2 l.length := by omega
    rw [q]
    match l with
    | [] => simp
    | [p] => simp
    | p :: q :: r => simp [List.take_succ_cons]
  · have ld : x.cps.toList.drop i = [] := List.drop_eq_nil_of_le (by omega)
    rw [ld, Nat.min_eq_right (by omega)]
    rw [List.drop_eq_nil_of_le (by omega)]
    simp
theorem piece_length {x : Str} {i e : Nat} (h1 : i ≤ e) (h2 : e ≤ x.cps.toList.length) : (piece x i e).length = e - i := by
  have el := str_len x
  unfold piece cutS
  rw [HT.sIx_nat, HT.sIx_nat, str_len]
  rw [Nat.min_eq_left (show i ≤ x.length by omega), Nat.min_eq_left (show e ≤ x.length by omega)]
  show ((x.cps.toList.drop i).take (e - i)).length = _
  rw [List.length_take, List.length_drop]
  omega
theorem TokL.len {H : Hp} : ∀ {l : List Addr} {ts : List (Str × Str × Nat)}, TokL H l ts → l.length = ts.length
  | [], [], .nil => rfl
  | _ :: _, _ :: _, .cons _ h => congrArg (· + 1) (TokL.len h)
end
section
variable {P : Program} {w : World} {K : PySem.W.Frag} {mg : Str → Option Value} {base : Heap}
/-! ### the law's reader of tokens -/
def spRunEnd : Sp := fun vs H Q _ => ∃ (x : Str) (i : Nat) (s : Str), vs = [.str x, .int (i : Int), .str s] ∧ x.cps.toList.length ≤ 100000 ∧ Q (.int ((runEnd (signsF s) x.cps.toList i : Nat) : Int)) H
theorem ok__law_run_end (T : Top w K mg) : FnOk P w K mg base CX0 1 (He.ga K ("_law_run_end" : Str)) (fdOf K d__law_run_end) ["text", "at", "signs"] spRunEnd := by
  refine (T.f__law_run_end).ok sc__law_run_end (fun vs H Q E h => ?_) (fun cdv A outer s H vs Q E hr h => ?_)
  · obtain ⟨x, i, s, rfl, _⟩ := h
    rfl
  · obtain ⟨x, i, sg, rfl, hx, k⟩ := h
    refine ⟨_, PSs.nox (pss_cons (ps_while PassesOwn.never (PW.pt (pw_and (pt_cmpR op_lt (pv 1) (pe_callB call_len_str (by rfl) T.n_len PySem.boot_len (pa_cons (pv 0) pa_nil)) (nomark _)) (pw_and1 (pt_cmpR op_in_sign (pe_ix ix_str (pv 0) (pv 1) (fun _ _ => rfl)) (pv 2) (by rfl)))))
    (pss_one (ps_set (i := 1) sc__law_run_end.nd rfl (Or.inl rfl) (pe_op op_add (pv 1) pe_int))))
    (pss_one (ps_ret (pv 1)))), ?_⟩
    walk_at "go"
    refine r_while (fun m σ H' => H' = H ∧ ∃ j : Nat, σ = [some (.str x), some (.int (j : Int)), some (.str sg)] ∧ runEnd (signsF sg) x.cps.toList j = runEnd (signsF sg) x.cps.toList i ∧ m = x.cps.toList.length - j) (x.cps.toList.length - i) ⟨rfl, i, rfl, rfl, rfl⟩ ?_
    rintro m σ H' ⟨rfl, j, rfl, hj, rfl⟩
    walk_at "go"
    refine ⟨str_fits hx, ?_⟩
    walk_at "go"
    refine ite_d (fun c => ?_) (fun c => ?_)
    · have hjl : j < x.cps.toList.length := by rw [← str_len]; omega
      have hc := List.getElem?_eq_getElem hjl
      walk_at "go"
      refine ⟨x, _, _, rfl, rfl, str_fits hx, atI_nat hc, ?_⟩
      walk_at "go"
      refine ite_d (fun q => ?_) (fun q => ?_)
      · refine ⟨_, fun _ _ z => z, ?_⟩
        walk_at "go"
        refine ⟨x.cps.toList.length - (j + 1), by omega, rfl, j + 1, rfl, ?_, rfl⟩
        rw [← hj, runEnd_step hc (decide_eq_true q)]
      · walk_at "go"
        rw [← hj, runEnd_stop hc (decide_eq_false q)] at k
        exact k
    · have hjl : x.cps.toList.length ≤ j := by rw [← str_len]; omega
      walk_at "go"
      rw [← hj, runEnd_over hjl] at k
      exact k
/-- the number's end, and the most digits on a side -/
def numAt (cs : List Nat) (i : Nat) : Nat × Nat :=
  let e := runEnd isD cs i
  if cs[e]? = some 46 ∧ ∃ c, cs[e + 1]? = some c ∧ isD c = true then (runEnd isD cs (e + 1), max (e - i) (runEnd isD cs (e + 1) - e - 1)) else (e, e - i)
def spNumAt : Sp := fun vs H Q _ => ∃ (x : Str) (i : Nat), vs = [.str x, .int (i : Int)] ∧ x.cps.toList.length ≤ 100000 ∧ ∀ p H', Same H H' → H' p = some (.tup [.int (((numAt x.cps.toList i).1 : Nat) : Int), .int (((numAt x.cps.toList i).2 : Nat) : Int)]) → Q (.ref p) H'
theorem ok__law_number_end (T : Top w K mg) : FnOk P w K mg base CX0 2 (He.ga K ("_law_number_end" : Str)) (fdOf K d__law_number_end) ["text", "at"] spNumAt := by
  refine (T.f__law_number_end).ok sc__law_number_end (fun vs H Q E h => ?_) (fun cdv A outer s H vs Q E hr h => ?_)
  · obtain ⟨x, i, rfl, _⟩ := h
    rfl
  · obtain ⟨x, i, rfl, hx, k⟩ := h
    refine ⟨_, PSs.nox (pss_cons (ps_set (i := 2) sc__law_number_end.nd rfl (Or.inl rfl) pe_str)
    (pss_cons (ps_set (i := 3) sc__law_number_end.nd rfl (Or.inl rfl) (pe_call (ok__law_run_end (K := K) T) (hr.mono (by decide)) rfl T.g__law_run_end T.f__law_run_end.kp T.b__law_run_end .nil pass0 (pa_cons (pv 0) (pa_cons (pv 1) (pa_cons (pv 2) pa_nil)))))
    (pss_cons (ps_set (i := 4) sc__law_number_end.nd rfl (Or.inl rfl) (pe_op op_sub (pv 3) (pv 1)))
    (C8.pss_cut (ps_if (PW.pt (pw_and (pt_cmpR op_lt (pe_op op_add (pv 3) pe_int) (pe_callB call_len_str (by rfl) T.n_len PySem.boot_len (pa_cons (pv 0) pa_nil)) (nomark _)) (pw_and (pt_cmpR op_eq (pe_ix ix_str (pv 0) (pv 3) (fun _ _ => rfl)) pe_str (nomark _)) (pw_and1 (pt_cmpR op_in_sign (pe_ix ix_str (pv 0) (pe_op op_add (pv 3) pe_int) (fun _ _ => rfl)) (pv 2) (by rfl))))))
    (pss_cons (ps_set (i := 5) sc__law_number_end.nd rfl (Or.inl rfl) (pe_call (ok__law_run_end (K := K) T) (hr.mono (by decide)) rfl T.g__law_run_end T.f__law_run_end.kp T.b__law_run_end .nil pass0 (pa_cons (pv 0) (pa_cons (pe_op op_add (pv 3) pe_int) (pa_cons (pv 2) pa_nil)))))
    (pss_cons (ps_set (i := 4) sc__law_number_end.nd rfl (Or.inl rfl) (pe_callB (call_max2 rfl) (by rfl) T.n_max (by decide +kernel) (pa_cons (pv 4) (pa_cons (pe_op op_sub (pe_op op_sub (pv 5) (pv 3)) pe_int) pa_nil))))
    (pss_one (ps_set (i := 3) sc__law_number_end.nd rfl (Or.inl rfl) (pv 5)))))
    pss_nil)
    (pss_one (ps_ret (pe_tup (pa_cons (pv 3) (pa_cons (pv 4) pa_nil))))))))), ?_⟩
    walk_at "go"
    refine ⟨x, i, _, rfl, hx, ?_⟩
    rw [digits_isD]
    have le := le_runEnd isD x.cps.toList i
    have lx := fun j h => runEnd_le isD x.cps.toList j h
    walk_at "go"
    have main : ∀ e b : Nat, (numAt x.cps.toList i) = (e, b) → ∀ p H', Same H H' → H' p = some (.tup [.int (e : Int), .int (b : Int)]) → Q (.ref p) H' := by
      intro e b h p H' s hp
      rw [h] at k
      exact k p H' s hp
    refine r_cut (fun σ H' => H' = H ∧ ∃ (e b : Nat) (l : Option V), σ = [some (.str x), some (.int (i : Int)), some (.str "0123456789"), some (.int (e : Int)), some (.int (b : Int)), l] ∧ numAt x.cps.toList i = (e, b)) ?_ ?_
    · unfold numAt
      generalize hp : runEnd isD x.cps.toList i = p at *
      have ep : ((p : Int) - (i : Int)) = ((p - i : Nat) : Int) := by omega
      rw [ep]
      walk_at "go"
      refine ⟨str_fits hx, ?_⟩
      walk_at "go"
      refine ite_d (fun c => ?_) (fun c => ?_)
      · have hpl : p + 1 < x.cps.toList.length := by rw [← str_len]; omega
        have hc := List.getElem?_eq_getElem (show p < x.cps.toList.length by omega)
        have hc1 := List.getElem?_eq_getElem hpl
        walk_at "go"
        refine ⟨x, _, _, rfl, rfl, str_fits hx, atI_nat hc, ?_⟩
        walk_at "go"
        rw [sign_is _ 46 (by decide +kernel)]
        refine ite_d (fun c46 => ?_) (fun c46 => ?_)
        · walk_at "go"
          refine ⟨x, _, _, rfl, rfl, str_fits hx, atI_nat (j := p + 1) hc1, ?_⟩
          walk_at "go"
          have e9 : (x.cps.toList[p + 1] ∈ (Str.ofString "0123456789").cps.toList) ↔ isD x.cps.toList[p + 1] = true := by
            rw [← digits_isD]
            exact (decide_eq_true_iff).symm
          refine ite_d (fun q => ?_) (fun q => ?_)
          · walk_at "go"
            refine ⟨x, p + 1, _, rfl, hx, ?_⟩
            rw [digits_isD]
            have le2 := le_runEnd isD x.cps.toList (p + 1)
            have con : x.cps.toList[p]? = some 46 ∧ ∃ c, x.cps.toList[p + 1]? = some c ∧ isD c = true := ⟨by rw [hc, c46], _, hc1, e9.mp q⟩
            rw [if_pos con]
            generalize runEnd isD x.cps.toList (p + 1) = l at *
            walk_at "go"
            refine ⟨rfl, l, max (p - i) (l - p - 1), some (.int (l : Int)), ?_, rfl⟩
            have e5 : (if (l : Int) - (p : Int) - 1 > ((p - i : Nat) : Int) then (l : Int) - (p : Int) - 1 else ((p - i : Nat) : Int)) = ((max (p - i) (l - p - 1) : Nat) : Int) := by
              split <;> omega
            rw [e5]
            rfl
          · walk_at "go"
            refine ⟨rfl, p, p - i, _, rfl, ?_⟩
            rw [if_neg]
            rintro ⟨_, d, hd, hd2⟩
            rw [hc1] at hd
            cases hd
            exact q (e9.mpr hd2)
        · walk_at "go"
          refine ⟨rfl, p, p - i, _, rfl, ?_⟩
          rw [if_neg]
          rintro ⟨h, _⟩
          rw [hc] at h
          exact c46 (Option.some.inj h)
      · walk_at "go"
        refine ⟨rfl, p, p - i, _, rfl, ?_⟩
        rw [if_neg]
        rintro ⟨_, d, hd, _⟩
        have := (List.getElem?_eq_some_iff.mp hd).1
        rw [← str_len] at this
        omega
    · rintro σ H' ⟨rfl, e, b, l, rfl, hn⟩
      walk_at "go"
      exact ⟨by show 2 ≤ sizeLine; decide, fun p hp => main e b hn p _ (same_new hp) upd_same⟩
/-- the symbol at i -/
def symAt (x : Str) (i c : Nat) : Option Str := if longAt x i = true then some (cutS x (some (i : Int)) (some ((i : Int) + 2))) else if c ∈ symL.cps.toList then some ⟨#[c]⟩ else none
def optV : Option Str → V
  | some y => .str y
  | none => .non
def spSymbol : Sp := fun vs H Q _ => ∃ (x : Str) (i c : Nat), vs = [.str x, .int (i : Int)] ∧ x.cps.toList[i]? = some c ∧ x.cps.toList.length ≤ 100000 ∧ ∀ H', Same H H' → Q (optV (symAt x i c)) H'
theorem ok__law_symbol (T : Top w K mg) : FnOk P w K mg base CX0 1 (He.ga K ("_law_symbol" : Str)) (fdOf K d__law_symbol) ["text", "at"] spSymbol := by
  refine (T.f__law_symbol).ok sc__law_symbol (fun vs H Q E h => ?_) (fun cdv A outer s H vs Q E hr h => ?_)
  · obtain ⟨x, i, c, rfl, _⟩ := h
    rfl
  · obtain ⟨x, i, c, rfl, hc, hx, k⟩ := h
    refine ⟨_, PSs.nox (pss_cons (ps_for PassesOwn.never rfl (pi_tupK (K := K) rfl (pe_tup (pa_cons pe_str (pa_cons pe_str (pa_cons pe_str (pa_cons pe_str pa_nil)))))) (pg_name (i := 2) sc__law_symbol.nd rfl (Or.inl rfl))
    (pss_one (ps_if (pt_cmpR op_eq (pe_slice sl_str (pv 0) (po_some (pv 1)) (po_some (pe_op op_add (pv 1) pe_int))) (pv 2) (nomark _))
    (pss_one (ps_ret (pv 2)))
    pss_nil)))
    (pss_cons (ps_if (pt_cmpR op_in_sign (pe_ix ix_str (pv 0) (pv 1) (fun _ _ => rfl)) pe_str (by rfl))
    (pss_one (ps_ret (pe_ix ix_str (pv 0) (pv 1) (fun _ _ => rfl))))
    pss_nil)
    (pss_one (ps_ret pe_non)))), ?_⟩
    walk_at "go"
    intro p hp
    have e1 : Same H (upd H p (.tup (longL.map V.str))) := same_new hp
    have h1 : (upd H p (.tup (longL.map V.str))) p = some (.tup (longL.map V.str)) := upd_same

    generalize hH : upd H p (.tup (longL.map V.str)) = H1 at e1 h1
    have hH' : upd H p (HO.tup [V.str "==", V.str "<=", V.str ">=", V.str "<>"]) = H1 := hH
    rw [hH']
    refine ⟨p, rfl, ⟨_, SqT.of h1⟩, ?_⟩
    have hci : atI x.cps.toList (i : Int) = some c := atI_nat hc
    have la : longAt x i = decide (cutS x (some (i : Int)) (some ((i : Int) + 2)) ∈ longL) := inV_strs _ _
    refine for_tpl (xs := longL.map V.str) (fun n σ H' => H' = H1 ∧ ∃ wv : Option V, σ = [some (.str x), some (.int (i : Int)), wv] ∧ ∀ y ∈ longL.take n, y ≠ cutS x (some (i : Int)) (some ((i : Int) + 2))) ⟨rfl, _, rfl, fun y h => by cases h⟩ (fun n σ H' _ h => by rw [h.1]; exact SqT.of h1) ?_ ?_
    · rintro n y σ H' hy ⟨rfl, wv, rfl, hn⟩
      rw [List.getElem?_map] at hy
      obtain ⟨z, hz, rfl⟩ := Option.map_eq_some_iff.mp hy
      walk_at "go"
      refine ⟨str_fits hx, ?_⟩
      walk_at "go"
      refine ite_d (fun d => ?_) (fun d => ?_)
      · walk_at "go"
        have d' := vstr_inj d
        have r := k H' e1
        unfold symAt at r
        rw [if_pos (by rw [la]; exact decide_eq_true (by rw [d']; exact List.mem_of_getElem? hz)), d'] at r
        exact r
      · walk_at "go"
        refine ⟨rfl, _, rfl, fun y h => ?_⟩
        rw [List.take_succ, hz] at h
        rcases List.mem_append.mp h with h | h
        · exact hn y h
        · rw [List.mem_singleton.mp h]
          exact fun t => d (by rw [← t])
    · rintro σ H' ⟨rfl, wv, rfl, hn⟩
      have no : longAt x i = false := by
        rw [la]
        refine decide_eq_false fun t => hn _ ?_ rfl
        rw [List.length_map, List.take_length]
        exact t
      walk_at "go"
      refine ⟨x, _, _, rfl, rfl, str_fits hx, hci, ?_⟩
      walk_at "go"
      have r := k H' e1
      unfold symAt at r
      rw [if_neg (by rw [no]; decide)] at r
      refine ite_d (fun d => ?_) (fun d => ?_)
      · rw [if_pos (show c ∈ symL.cps.toList from d)] at r
        walk_at "go"
        refine ⟨x, _, _, rfl, rfl, str_fits hx, hci, ?_⟩
        exact r
      · rw [if_neg (show ¬ c ∈ symL.cps.toList from d)] at r
        walk_at "go"
        exact r
end
section
variable {P : Program} {w : World} {K : PySem.W.Frag} {mg : Str → Option Value} {base : Heap}
theorem ok__law_keywords (T : Top w K mg) : FnOk P w K mg base CX0 1 (He.ga K ("_law_keywords" : Str)) (fdOf K d__law_keywords) [] spKeys := by
  refine (T.f__law_keywords).ok sc__law_keywords (fun vs H Q E h => ?_) (fun cdv A outer s H vs Q E hr h => ?_)
  · obtain ⟨rfl, _⟩ := h
    rfl
  · obtain ⟨rfl, k⟩ := h
    refine ⟨_, PSs.nox (pss_cons (ps_set (i := 0) sc__law_keywords.nd rfl (Or.inl rfl) pe_str)
    (pss_cons (ps_set (i := 0) sc__law_keywords.nd rfl (Or.inl rfl) (pe_op op_add_str (pv 0) pe_str))
    (pss_one (ps_ret (pe_bm PySem.F.plainAttrs_str PySem.F.slot_str_split PySem.F.type_str_split mt_split (pv 0) (pa_cons pe_str pa_nil)))))), ?_⟩
    walk_at "go"
    refine ⟨rfl, ?_⟩
    walk_at "go"
    rw [keys_split]
    exact fun p hp => k p _ (same_new hp) hp upd_same
/-! ### the law's own reading, as a function -/
def lawScan (x : Str) : Nat → Nat → List (Str × Str × Nat) × Option Nat
  | 0, _ => ([], none)
  | n + 1, i => match x.cps.toList[i]? with
    | none => ([], none)
    | some c =>
      if c = 32 ∨ c = 10 then lawScan x n (i + 1)
      else if c = 47 ∧ x.cps.toList[i + 1]? = some 47 then lawScan x n (feedAt x.cps.toList i)
      else if isL c = true then
        (if runEnd isW x.cps.toList i ≤ i + 20 then
          ((kindOf (piece x i (runEnd isW x.cps.toList i)) c, piece x i (runEnd isW x.cps.toList i), i) :: (lawScan x n (runEnd isW x.cps.toList i)).1, (lawScan x n (runEnd isW x.cps.toList i)).2)
        else ([], some i))
      else if isD c = true then
        (if (numAt x.cps.toList i).2 ≤ 15 then (("number", piece x i (numAt x.cps.toList i).1, i) :: (lawScan x n (numAt x.cps.toList i).1).1, (lawScan x n (numAt x.cps.toList i).1).2) else ([], some i))
      else match symAt x i c with
        | none => ([], some i)
        | some y => (("symbol", y, i) :: (lawScan x n (i + y.length)).1, (lawScan x n (i + y.length)).2)
theorem numAt_end (cs : List Nat) (i : Nat) : numEnd cs i = if (numAt cs i).2 ≤ 15 then (numAt cs i).1 else i := by
  unfold numEnd numAt
  have le := le_runEnd isD cs i
  generalize runEnd isD cs i = p at *
  dsimp only
  by_cases h : cs[p]? = some 46 ∧ ∃ c, cs[p + 1]? = some c ∧ isD c = true
  · rw [if_pos h]
    obtain ⟨h1, c, h2, h3⟩ := h
    have e := runEnd_step h2 h3
    have le2 := le_runEnd isD cs (p + 1 + 1)
    have b : behind cs p = runEnd isD cs (p + 1) := if_pos h1
    rw [b]
    generalize runEnd isD cs (p + 1) = l at *
    have cu : cutAt p l = l := if_neg (by omega)
    rw [cu]
    dsimp only
    split
    · rw [if_neg (by omega)]
    · rw [if_pos (by omega)]
  · rw [if_neg h]
    have cu : cutAt p (behind cs p) = p := by
      by_cases h1 : cs[p]? = some 46
      · have b : behind cs p = runEnd isD cs (p + 1) := if_pos h1
        rw [b]
        cases h2 : cs[p + 1]? with
        | none => rw [runEnd_over (List.getElem?_eq_none_iff.mp h2)]; exact if_pos (by omega)
        | some c => rw [runEnd_stop h2 (Bool.eq_false_iff.mpr fun t => h ⟨h1, c, h2, t⟩)]; exact if_pos (by omega)
      · have b : behind cs p = p := if_neg h1
        rw [b]
        exact if_pos (by omega)
    rw [cu]
    dsimp only
    split
    · rw [if_neg (by omega)]
    · rw [if_pos (by omega)]
/-- as the law tells the end -/
def toL (x : Str) (r : List (Str × Str × Nat) × Nat) : List (Str × Str × Nat) × Option Nat := (r.1, if r.2 < x.cps.toList.length then some r.2 else none)
theorem toL_over {x : Str} {ts : List (Str × Str × Nat)} {i : Nat} (h : x.cps.toList.length ≤ i) : toL x (ts, i) = (ts, none) := by
  unfold toL
  rw [if_neg (show ¬ i < x.cps.toList.length by omega)]
theorem toL_in {x : Str} {ts : List (Str × Str × Nat)} {i : Nat} (h : i < x.cps.toList.length) : toL x (ts, i) = (ts, some i) := by
  unfold toL
  rw [if_pos (show i < x.cps.toList.length from h)]
/-- the law's reading is the program's -/
theorem law_scan (x : Str) : ∀ (n m i : Nat), x.cps.toList.length - i < n → x.cps.toList.length - nextAt x.cps.toList i < m →
    lawScan x n i = toL x (scan x m (nextAt x.cps.toList i)) := by
  intro n
  induction n with
  | zero => intro m i h; omega
  | succ n ih =>
    intro m i hn hm
    obtain ⟨m, rfl⟩ : ∃ m', m = m' + 1 := ⟨m - 1, by omega⟩
    rw [lawScan]
    cases hc : x.cps.toList[i]? with
    | none =>
      have hi := List.getElem?_eq_none_iff.mp hc
      rw [nextAt_over hi, scan_none hi, toL_over (Nat.le_refl _)]
    | some c =>
      have hi := (List.getElem?_eq_some_iff.mp hc).1
      dsimp only
      by_cases h1 : c = 32 ∨ c = 10
      · have sp : x.cps.toList[i]? = some 32 ∨ x.cps.toList[i]? = some 10 := by rw [hc]; exact h1.imp (congrArg some) (congrArg some)
        rw [if_pos h1, nextAt_space sp]
        rw [nextAt_space sp] at hm
        exact ih _ _ (by omega) hm
      · rw [if_neg h1]
        by_cases h2 : c = 47 ∧ x.cps.toList[i + 1]? = some 47
        · have rm : x.cps.toList[i]? = some 47 ∧ x.cps.toList[i + 1]? = some 47 := ⟨by rw [hc, h2.1], h2.2⟩
          have g := feedAt_gt rm.1
          rw [if_pos h2, nextAt_remark rm]
          rw [nextAt_remark rm] at hm
          exact ih _ _ (by omega) hm
        · rw [if_neg h2]
          have n1 : ¬ (x.cps.toList[i]? = some 47 ∧ x.cps.toList[i + 1]? = some 47) := fun t => h2 ⟨Option.some.inj (hc.symm.trans t.1), t.2⟩
          have n2 : ¬ (x.cps.toList[i]? = some 32 ∨ x.cps.toList[i]? = some 10) := fun t => h1 (t.imp (fun t => Option.some.inj (hc.symm.trans t)) (fun t => Option.some.inj (hc.symm.trans t)))
          have st := nextAt_stop n1 n2
          rw [st] at hm ⊢
          rw [scan_some hc]
          have step : ∀ e, i < e → lawScan x n e = toL x (scan x m (nextAt x.cps.toList e)) := by
            intro e he
            have := le_nextAt x.cps.toList _ e (Nat.le_refl _)
            exact ih m e (by omega) (by omega)
          by_cases hL : isL c = true
          · rw [if_pos hL]
            have w1 := runEnd_step (f := isW) hc (by unfold isW; rw [hL] <;> rfl)
            have w2 := le_runEnd isW x.cps.toList (i + 1)
            by_cases h20 : runEnd isW x.cps.toList i ≤ i + 20
            · have te : tokEnd x i c = runEnd isW x.cps.toList i := by
                unfold tokEnd
                rw [if_pos hL, if_pos h20]
              rw [if_pos h20, te, if_neg (by omega), step _ (by omega)]
              rfl
            · have te : tokEnd x i c = i := by
                unfold tokEnd
                rw [if_pos hL, if_neg h20]
              rw [if_neg h20, te, if_pos rfl, toL_in hi]
          · rw [if_neg hL]
            by_cases hD : isD c = true
            · rw [if_pos hD]
              have te : tokEnd x i c = if (numAt x.cps.toList i).2 ≤ 15 then (numAt x.cps.toList i).1 else i := by
                unfold tokEnd
                rw [if_neg hL, if_pos hD, numAt_end]
              by_cases h15 : (numAt x.cps.toList i).2 ≤ 15
              · rw [if_pos h15] at te
                have gt : i < (numAt x.cps.toList i).1 := by
                  have d1 := runEnd_step (f := isD) hc hD
                  have d2 := le_runEnd isD x.cps.toList (i + 1)
                  unfold numAt
                  generalize runEnd isD x.cps.toList i = p at *
                  have d3 := le_runEnd isD x.cps.toList (p + 1)
                  dsimp only
                  split
                  · show i < runEnd isD x.cps.toList (p + 1)
                    omega
                  · show i < p
                    omega
                have kd : kindOf (piece x i (numAt x.cps.toList i).1) c = "number" := by
                  unfold kindOf
                  rw [if_neg hL, if_pos hD]
                rw [if_pos h15, te, if_neg (by omega), step _ gt, kd]
                rfl
              · rw [if_neg h15] at te
                rw [if_neg h15, te, if_pos rfl, toL_in hi]
            · rw [if_neg hD]
              have kd : ∀ y, kindOf y c = "symbol" := by
                intro y
                unfold kindOf
                rw [if_neg hL, if_neg hD]
              unfold symAt
              by_cases hl : longAt x i = true
              · have te : tokEnd x i c = i + 2 := by
                  unfold tokEnd
                  rw [if_neg hL, if_neg hD, if_pos hl]
                have l2 : (cutS x (some (i : Int)) (some ((i : Int) + 2))).length = 2 := by
                  refine long_len (of_decide_eq_true ?_)
                  rw [← inV_strs]
                  exact hl
                rw [if_pos hl, te, if_neg (by omega)]
                dsimp only
                rw [l2, step _ (by omega), kd, piece_two]
                rfl
              · rw [if_neg hl]
                by_cases hs : c ∈ symL.cps.toList
                · have te : tokEnd x i c = i + 1 := by
                    unfold tokEnd
                    rw [if_neg hL, if_neg hD, if_neg hl, if_pos hs]
                  rw [if_pos hs, te, if_neg (by omega)]
                  dsimp only
                  rw [show (⟨#[c]⟩ : Str).length = 1 from rfl, step _ (by omega), kd, piece_one hc]
                  rfl
                · have te : tokEnd x i c = i := by
                    unfold tokEnd
                    rw [if_neg hL, if_neg hD, if_neg hl, if_neg hs]
                  rw [if_neg hs, te, if_pos rfl, toL_in hi]
end
section
variable {P : Program} {w : World} {K : PySem.W.Frag} {mg : Str → Option Value} {base : Heap}
def optN : Option Nat → V
  | some i => .int (i : Int)
  | none => .non
def lawLexed (x : Str) : List (Str × Str × Nat) × Option Nat := lawScan x (x.cps.toList.length + 1) 0
def spLex : Sp := fun vs H Q _ => ∃ x : Str, vs = [.str x] ∧ x.cps.toList.length ≤ 100000 ∧
  ∀ p l as H', Same H H' → H' p = some (.tup [.ref l, optN (lawLexed x).2]) → H' l = some (.lst (as.map V.ref)) → TokL H' as (lawLexed x).1 → as.length ≤ 100000 → Q (.ref p) H'
end
section
variable {P : Program} {w : World} {K : PySem.W.Frag} {mg : Str → Option Value} {base : Heap}
theorem ok__law_lex (T : Top w K mg) : FnOk P w K mg base CX0 3 (He.ga K ("_law_lex" : Str)) (fdOf K d__law_lex) ["text"] spLex := by
  refine (T.f__law_lex).ok sc__law_lex (fun vs H Q E h => ?_) (fun cdv A outer s H vs Q E hr h => ?_)
  · obtain ⟨x, rfl, _⟩ := h
    rfl
  · obtain ⟨x, rfl, hx, k⟩ := h
    refine ⟨_, PSs.nox (pss_cons (ps_set (i := 1) sc__law_lex.nd rfl (Or.inl rfl) pe_str)
    (pss_cons (ps_set (i := 2) sc__law_lex.nd rfl (Or.inl rfl) (pe_call0 (ok__law_keywords (K := K) T) (hr.mono (by decide)) rfl T.g__law_keywords T.f__law_keywords.kp T.b__law_keywords .nil pass0))
    (pss_cons (ps_set (i := 3) sc__law_lex.nd rfl (Or.inl rfl) (pe_lst pa_nil))
    (pss_cons (ps_set (i := 4) sc__law_lex.nd rfl (Or.inl rfl) pe_int)
    (pss_cons (ps_while PassesOwn.never (pt_cmpR op_lt (pv 4) (pe_callB call_len_str (by rfl) T.n_len PySem.boot_len (pa_cons (pv 0) pa_nil)) (nomark _))
    (pss_one (ps_if (pt_cmpR op_in_sign (pe_ix ix_str (pv 0) (pv 4) (fun _ _ => rfl)) pe_str (by rfl))
    (pss_one (ps_set (i := 4) sc__law_lex.nd rfl (Or.inl rfl) (pe_op op_add (pv 4) pe_int)))
    (pss_one (ps_if (pt_cmpR op_eq (pe_slice sl_str (pv 0) (po_some (pv 4)) (po_some (pe_op op_add (pv 4) pe_int))) pe_str (nomark _))
    (pss_one (ps_while PassesOwn.never (PW.pt (pw_and (pt_cmpR op_lt (pv 4) (pe_callB call_len_str (by rfl) T.n_len PySem.boot_len (pa_cons (pv 0) pa_nil)) (nomark _)) (pw_and1 (pt_cmpR op_ne (pe_ix ix_str (pv 0) (pv 4) (fun _ _ => rfl)) pe_str (nomark _)))))
    (pss_one (ps_set (i := 4) sc__law_lex.nd rfl (Or.inl rfl) (pe_op op_add (pv 4) pe_int)))))
    (pss_one (ps_if (pt_cmpR op_in_sign (pe_ix ix_str (pv 0) (pv 4) (fun _ _ => rfl)) (pv 1) (by rfl))
    (pss_cons (ps_set (i := 5) sc__law_lex.nd rfl (Or.inl rfl) (pe_call (ok__law_run_end (K := K) T) (hr.mono (by decide)) rfl T.g__law_run_end T.f__law_run_end.kp T.b__law_run_end .nil pass0 (pa_cons (pv 0) (pa_cons (pv 4) (pa_cons (pe_op op_add_str (pv 1) pe_str) pa_nil)))))
    (pss_cons (ps_set (i := 6) sc__law_lex.nd rfl (Or.inl rfl) (pe_slice sl_str (pv 0) (po_some (pv 4)) (po_some (pv 5))))
    (pss_cons (ps_if (pt_cmpR op_gt (pe_callB call_len_str (by rfl) T.n_len PySem.boot_len (pa_cons (pv 6) pa_nil)) pe_int (nomark _))
    (pss_one (ps_ret (pe_tup (pa_cons (pv 3) (pa_cons (pv 4) pa_nil)))))
    pss_nil)
    (pss_cons (ps_expr (pe_bm PySem.F.plainAttrs_list PySem.F.slot_list_append PySem.F.type_list_append mt_append (pv 3) (pa_cons (pe_tup (pa_cons (pe_ix (ix_listK (K := K) rfl) (pe_lst (pa_cons pe_str (pa_cons pe_str pa_nil))) (pe_callTy call_int1 (by rfl) T.n_int (by decide +kernel) (pa_cons (pe_cmpR (op_inK (K := K) rfl) (pv 6) (pv 2) (by rfl)) pa_nil)) (fun _ _ => rfl)) (pa_cons (pv 6) (pa_cons (pv 4) pa_nil)))) pa_nil)))
    (pss_one (ps_set (i := 4) sc__law_lex.nd rfl (Or.inl rfl) (pv 5)))))))
    (pss_one (ps_if (pt_cmpR op_in_sign (pe_ix ix_str (pv 0) (pv 4) (fun _ _ => rfl)) pe_str (by rfl))
    (pss_cons (ps_asg (pe_call (ok__law_number_end (K := K) T) (hr.mono (by decide)) rfl T.g__law_number_end T.f__law_number_end.kp T.b__law_number_end .nil pass0 (pa_cons (pv 0) (pa_cons (pv 4) pa_nil))) (pg_tup (by rfl) (pgs_cons (pg_name (i := 5) sc__law_lex.nd rfl (Or.inl rfl)) (pgs_cons (pg_name (i := 7) sc__law_lex.nd rfl (Or.inl rfl)) pgs_nil))))
    (pss_cons (ps_if (pt_cmpR op_gt (pv 7) pe_int (nomark _))
    (pss_one (ps_ret (pe_tup (pa_cons (pv 3) (pa_cons (pv 4) pa_nil)))))
    pss_nil)
    (pss_cons (ps_expr (pe_bm PySem.F.plainAttrs_list PySem.F.slot_list_append PySem.F.type_list_append mt_append (pv 3) (pa_cons (pe_tup (pa_cons pe_str (pa_cons (pe_slice sl_str (pv 0) (po_some (pv 4)) (po_some (pv 5))) (pa_cons (pv 4) pa_nil)))) pa_nil)))
    (pss_one (ps_set (i := 4) sc__law_lex.nd rfl (Or.inl rfl) (pv 5))))))
    (pss_cons (ps_set (i := 6) sc__law_lex.nd rfl (Or.inl rfl) (pe_call (ok__law_symbol (K := K) T) (hr.mono (by decide)) rfl T.g__law_symbol T.f__law_symbol.kp T.b__law_symbol .nil pass0 (pa_cons (pv 0) (pa_cons (pv 4) pa_nil))))
    (pss_cons (ps_if (pt_cmpR op_isN (pv 6) pe_non (nomark _))
    (pss_one (ps_ret (pe_tup (pa_cons (pv 3) (pa_cons (pv 4) pa_nil)))))
    pss_nil)
    (pss_cons (ps_expr (pe_bm PySem.F.plainAttrs_list PySem.F.slot_list_append PySem.F.type_list_append mt_append (pv 3) (pa_cons (pe_tup (pa_cons pe_str (pa_cons (pv 6) (pa_cons (pv 4) pa_nil)))) pa_nil)))
    (pss_one (ps_set (i := 4) sc__law_lex.nd rfl (Or.inl rfl) (pe_op op_add (pv 4) (pe_callB call_len_str (by rfl) T.n_len PySem.boot_len (pa_cons (pv 6) pa_nil)))))))))))))))))
    (pss_one (ps_ret (pe_tup (pa_cons (pv 3) (pa_cons pe_non pa_nil)))))))))), ?_⟩
    walk_at "go"
    intro kx H0 e0 nk hk
    walk_at "go"
    intro l hl
    walk_at "go"
    have hkl : kx ≠ l := ne_of_none hk hl
    have hlH : H l = none := e0.free hl
    refine r_while (fun m σ H' => ∃ (j : Nat) (as : List Addr) (ts : List (Str × Str × Nat)) (e wd lg : Option V), σ = [some (.str x), some (.str letS), some (.ref kx), some (.ref l), some (.int (j : Int)), e, wd, lg] ∧ Same H H' ∧ H' kx = some (.lst (keyL.map V.str)) ∧
      H' l = some (.lst (as.map V.ref)) ∧ TokL H' as ts ∧ lawLexed x = (ts ++ (lawScan x m j).1, (lawScan x m j).2) ∧ x.cps.toList.length - j < m ∧ as.length ≤ j ∧ j ≤ x.cps.toList.length) (x.cps.toList.length + 1)
      ⟨0, [], [], none, none, none, rfl, e0.trans (same_new hl), by rw [upd_ne hkl]; exact hk, upd_same, .nil, rfl, by omega, Nat.zero_le _, Nat.zero_le _⟩ ?_
    rintro m σ H' ⟨j, as, ts, e, wd, lg, rfl, e1, hk1, hl1, tk, sc, hm, ha, hjl⟩
    obtain ⟨m, rfl⟩ : ∃ m', m = m' + 1 := ⟨m - 1, by omega⟩
    have lim : as.length < sizeLine := by rw [sizeLine_eq]; omega
    -- handing back what was found
    have back : ∀ o : Option Nat, lawLexed x = (ts, o) → ∀ p, H' p = none → Q (.ref p) (upd H' p (.tup [.ref l, optN o])) := by
      intro o ho p hp
      rw [ho] at k
      exact k p l as _ (e1.trans (same_new hp)) upd_same (by rw [upd_ne (ne_of_none hl1 hp)]; exact hl1) (tk.mono (same_new hp)) (by omega)
    -- one token more
    have more : ∀ (kd y : Str) (i' : Nat) (H2 : Hp) (p : Addr), Same H' H2 → H2 p = none → j < i' → i' ≤ x.cps.toList.length →
        lawScan x (m + 1) j = ((kd, y, j) :: (lawScan x m i').1, (lawScan x m i').2) → ∀ e' wd' lg' : Option V,
        ∃ m', m' < m + 1 ∧ ∃ (j' : Nat) (as' : List Addr) (ts' : List (Str × Str × Nat)) (e'' wd'' lg'' : Option V), [some (V.str x), some (.str letS), some (.ref kx), some (.ref l), some (.int (i' : Int)), e', wd', lg'] = [some (V.str x), some (.str letS), some (.ref kx), some (.ref l), some (.int (j' : Int)), e'', wd'', lg''] ∧
          Same H (upd (upd H2 p (.tup [.str kd, .str y, .int (j : Int)])) l (.lst (as.map V.ref ++ [.ref p]))) ∧ (upd (upd H2 p (.tup [.str kd, .str y, .int (j : Int)])) l (.lst (as.map V.ref ++ [.ref p]))) kx = some (.lst (keyL.map V.str)) ∧
          (upd (upd H2 p (.tup [.str kd, .str y, .int (j : Int)])) l (.lst (as.map V.ref ++ [.ref p]))) l = some (.lst (as'.map V.ref)) ∧ TokL (upd (upd H2 p (.tup [.str kd, .str y, .int (j : Int)])) l (.lst (as.map V.ref ++ [.ref p]))) as' ts' ∧
          lawLexed x = (ts' ++ (lawScan x m' j').1, (lawScan x m' j').2) ∧ x.cps.toList.length - j' < m' ∧ as'.length ≤ j' ∧ j' ≤ x.cps.toList.length := by
      intro kd y i' H2 p s2 hp hi' hl' sq e' wd' lg'
      rw [sq] at sc
      have hl2 := s2 _ _ hl1
      have hk2 := s2 _ _ hk1
      have hlp : l ≠ p := ne_of_none hl2 hp
      refine ⟨m, Nat.lt_succ_self m, i', as ++ [p], ts ++ [(kd, y, j)], e', wd', lg', rfl, ?_, ?_, ?_, ?_, ?_, by omega, by rw [List.length_append, List.length_singleton]; omega, hl'⟩
      · intro b u hb
        rw [upd_ne (ne_of_none hb hlH), upd_ne (ne_of_none (s2 _ _ (e1 _ _ hb)) hp)]
        exact s2 _ _ (e1 _ _ hb)
      · rw [upd_ne hkl, upd_ne (ne_of_none hk2 hp)]
        exact hk2
      · rw [upd_same, List.map_append]
        rfl
      · exact TokL.snoc (by rw [upd_ne (Ne.symm hlp), upd_same]) (TokL.upd (by rw [upd_ne hlp]; exact hl2) ((tk.mono s2).mono (same_new hp)))
      · rw [sc, List.append_assoc]
        rfl
    walk_at "go"
    refine ⟨str_fits hx, ?_⟩
    walk_at "go"
    refine ite_d (fun c => ?_) (fun c => ?_)
    · have hjl : j < x.cps.toList.length := by rw [← str_len]; omega
      have hc := List.getElem?_eq_getElem hjl
      have hcj : atI x.cps.toList (j : Int) = some x.cps.toList[j] := atI_nat hc
      generalize x.cps.toList[j] = ch at hc hcj
      refine ⟨_, fun _ _ z => z, ?_⟩
      walk_at "go"
      refine ⟨x, _, _, rfl, rfl, str_fits hx, hcj, ?_⟩
      walk_at "go"
      have e10 : (Str.ofString " \n").cps.toList = [32, 10] := by decide +kernel
      rw [e10]
      refine ite_d (fun c1 => ?_) (fun c1 => ?_)
      · have c1 : ch = 32 ∨ ch = 10 := by simpa using c1
        have sq : lawScan x (m + 1) j = lawScan x m (j + 1) := by
          rw [lawScan, hc]
          exact if_pos c1
        rw [sq] at sc
        walk_at "go"
        exact ⟨m, Nat.lt_succ_self m, j + 1, as, ts, e, wd, lg, rfl, e1, hk1, hl1, tk, sc, by omega, by omega, by omega⟩
      · have c1 : ¬ (ch = 32 ∨ ch = 10) := by simpa using c1
        walk_at "go"
        refine ⟨str_fits hx, ?_⟩
        walk_at "go"
        have c2e : (V.str (cutS x (some (j : Int)) (some ((j : Int) + 2))) = V.str (Str.ofString "//")) ↔ (ch = 47 ∧ x.cps.toList[j + 1]? = some 47) := by
          rw [show (V.str (cutS x (some (j : Int)) (some ((j : Int) + 2))) = V.str (Str.ofString "//")) ↔ cutS x (some (j : Int)) (some ((j : Int) + 2)) = Str.ofString "//" from ⟨vstr_inj, congrArg V.str⟩, cut_two x j 47 47 (by decide +kernel), hc]
          exact ⟨fun h => ⟨Option.some.inj h.1, h.2⟩, fun h => ⟨by rw [h.1], h.2⟩⟩
        refine ite_d (fun c2 => ?_) (fun c2 => ?_)
        · have c2 := c2e.mp c2
          have sq : lawScan x (m + 1) j = lawScan x m (feedAt x.cps.toList j) := by
            rw [lawScan, hc]
            dsimp only
            rw [if_neg c1, if_pos c2]
          rw [sq] at sc
          have gt := feedAt_gt (cs := x.cps.toList) (i := j) (by rw [hc, c2.1])
          have fl : feedAt x.cps.toList j ≤ x.cps.toList.length := runEnd_le _ _ _ (by omega)
          refine r_while (fun m2 σ H2 => H2 = H' ∧ ∃ j2 : Nat, σ = [some (.str x), some (.str letS), some (.ref kx), some (.ref l), some (.int (j2 : Int)), e, wd, lg] ∧ feedAt x.cps.toList j2 = feedAt x.cps.toList j ∧ m2 = x.cps.toList.length - j2) (x.cps.toList.length - j) ⟨rfl, j, rfl, rfl, rfl⟩ ?_
          rintro m2 σ H2 ⟨rfl, j2, rfl, hj2, rfl⟩
          walk_at "go"
          refine ⟨str_fits hx, ?_⟩
          walk_at "go"
          have fin : feedAt x.cps.toList j2 = j2 → ∃ m', m' < m + 1 ∧ ∃ (j' : Nat) (as' : List Addr) (ts' : List (Str × Str × Nat)) (e'' wd'' lg'' : Option V), [some (V.str x), some (.str letS), some (.ref kx), some (.ref l), some (.int (j2 : Int)), e, wd, lg] = [some (V.str x), some (.str letS), some (.ref kx), some (.ref l), some (.int (j' : Int)), e'', wd'', lg''] ∧
              Same H H2 ∧ H2 kx = some (.lst (keyL.map V.str)) ∧ H2 l = some (.lst (as'.map V.ref)) ∧ TokL H2 as' ts' ∧ lawLexed x = (ts' ++ (lawScan x m' j').1, (lawScan x m' j').2) ∧ x.cps.toList.length - j' < m' ∧ as'.length ≤ j' ∧ j' ≤ x.cps.toList.length := by
            intro h
            rw [h] at hj2
            rw [← hj2] at sc gt fl
            exact ⟨m, Nat.lt_succ_self m, j2, as, ts, e, wd, lg, rfl, e1, hk1, hl1, tk, sc, by omega, by omega, fl⟩
          refine ite_d (fun d => ?_) (fun d => ?_)
          · have hjl2 : j2 < x.cps.toList.length := by rw [← str_len]; omega
            have hc2 := List.getElem?_eq_getElem hjl2
            walk_at "go"
            refine ⟨x, _, _, rfl, rfl, str_fits hx, atI_nat hc2, ?_⟩
            walk_at "go"
            rw [sign_is _ 10 (by decide +kernel)]
            refine ite_nd (fun q => ?_) (fun q => ?_)
            · refine ⟨_, fun _ _ z => z, ?_⟩
              walk_at "go"
              refine ⟨x.cps.toList.length - (j2 + 1), by omega, rfl, j2 + 1, rfl, ?_, rfl⟩
              rw [← hj2]
              exact (runEnd_step hc2 (decide_eq_true q)).symm
            · walk_at "go"
              exact fin (runEnd_stop hc2 (by simp [q]))
          · have hjl2 : x.cps.toList.length ≤ j2 := by rw [← str_len]; omega
            walk_at "go"
            exact fin (runEnd_over hjl2)
        · have c2 : ¬ (ch = 47 ∧ x.cps.toList[j + 1]? = some 47) := fun t => c2 (c2e.mpr t)
          walk_at "go"
          refine ⟨x, _, _, rfl, rfl, str_fits hx, hcj, ?_⟩
          walk_at "go"
          refine ite_d (fun c3 => ?_) (fun c3 => ?_)
          · have c3 : isL ch = true := (let_isL ch).mp c3
            have w1 := runEnd_step (f := isW) hc (by unfold isW; rw [c3] <;> rfl)
            have w2 := le_runEnd isW x.cps.toList (j + 1)
            have w3 := runEnd_le isW x.cps.toList j (by omega)
            walk_at "go"
            refine ⟨x, j, _, rfl, hx, ?_⟩
            rw [let_isW]
            have sq : lawScan x (m + 1) j = if runEnd isW x.cps.toList j ≤ j + 20 then ((kindOf (piece x j (runEnd isW x.cps.toList j)) ch, piece x j (runEnd isW x.cps.toList j), j) :: (lawScan x m (runEnd isW x.cps.toList j)).1, (lawScan x m (runEnd isW x.cps.toList j)).2) else ([], some j) := by
              rw [lawScan, hc]
              dsimp only
              rw [if_neg c1, if_neg c2, if_pos c3]
            generalize runEnd isW x.cps.toList j = ee at *
            have pl : (cutS x (some (j : Int)) (some (ee : Int))).length = ee - j := piece_length (by omega) w3
            walk_at "go"
            refine ⟨str_fits hx, ?_⟩
            walk_at "go"
            refine ⟨by rw [pl, sizeLine_eq]; omega, ?_⟩
            walk_at "go"
            rw [pl]
            refine ite_d (fun d => ?_) (fun d => ?_)
            · rw [if_neg (by omega)] at sq
              rw [sq, List.append_nil] at sc
              walk_at "go"
              exact ⟨by show 2 ≤ sizeLine; decide, fun p hp => back (some j) sc p hp⟩
            · rw [if_pos (by omega)] at sq
              walk_at "go"
              refine ⟨.inl ⟨rfl, _, SqL.of hl1⟩, ?_⟩
              walk_at "go"
              intro p1 hp1
              have s1 : Same H' (upd H' p1 (.lst [.str "word", .str "key"])) := same_new hp1
              walk_at "go"
              refine ⟨_, _, rfl, .inl (SqL.of (s1 _ _ hk1)), rfl, flat_strs _, ?_⟩
              rw [if_neg (show ¬ (false = true) from by decide)]
              refine Or.inr ⟨_, rfl, ?_⟩
              have kd : atI [V.str "word", V.str "key"] (if inV (V.str (cutS x (some (j : Int)) (some (ee : Int)))) (keyL.map V.str) = true then 1 else 0) = some (.str (kindOf (piece x j ee) ch)) := by
                unfold kindOf
                rw [if_pos c3]
                show atI [V.str "word", V.str "key"] (if inV (V.str (piece x j ee)) (keyL.map V.str) = true then 1 else 0) = _
                by_cases q : inV (V.str (piece x j ee)) (keyL.map V.str) = true
                · rw [if_pos q, if_pos q]
                  rfl
                · rw [if_neg q, if_neg q]
                  rfl
              refine r_ixL (SqL.of upd_same) kd ?_
              walk_at "go"
              refine ⟨by show 3 ≤ sizeLine; decide, fun p hp => ?_⟩
              walk_at "go"
              have hl2 := s1 _ _ hl1
              refine ⟨l, _, _, rfl, rfl, by rw [upd_ne (ne_of_none hl2 hp)]; exact hl2, by rw [List.length_map]; exact lim, ?_⟩
              walk_at "go"
              exact more _ _ ee _ p s1 hp (by omega) w3 sq _ _ _
          · have c3 : ¬ isL ch = true := fun t => c3 ((let_isL ch).mpr t)
            walk_at "go"
            refine ⟨x, _, _, rfl, rfl, str_fits hx, hcj, ?_⟩
            walk_at "go"
            refine ite_d (fun c4 => ?_) (fun c4 => ?_)
            · have c4 : isD ch = true := (dig_isD ch).mp c4
              have d1 := runEnd_step (f := isD) hc c4
              have sq : lawScan x (m + 1) j = if (numAt x.cps.toList j).2 ≤ 15 then ((("number" : Str), piece x j (numAt x.cps.toList j).1, j) :: (lawScan x m (numAt x.cps.toList j).1).1, (lawScan x m (numAt x.cps.toList j).1).2) else ([], some j) := by
                rw [lawScan, hc]
                dsimp only
                rw [if_neg c1, if_neg c2, if_neg c3, if_pos c4]
              have gt : j < (numAt x.cps.toList j).1 ∧ (numAt x.cps.toList j).1 ≤ x.cps.toList.length := by
                have d2 := le_runEnd isD x.cps.toList (j + 1)
                have d3 := runEnd_le isD x.cps.toList j (by omega)
                unfold numAt
                generalize runEnd isD x.cps.toList j = p at *
                have d4 := le_runEnd isD x.cps.toList (p + 1)
                dsimp only
                split
                · rename_i h
                  obtain ⟨_, c, hh, _⟩ := h
                  have h5 := (List.getElem?_eq_some_iff.mp hh).1
                  have d5 := runEnd_le isD x.cps.toList (p + 1) (by omega)
                  exact ⟨by show j < runEnd isD x.cps.toList (p + 1); omega, d5⟩
                · exact ⟨by show j < p; omega, d3⟩
              obtain ⟨ee, lo, hn⟩ : ∃ a b, numAt x.cps.toList j = (a, b) := ⟨_, _, rfl⟩
              rw [hn] at sq gt
              walk_at "go"
              intro p2 H2 s2 hp2
              rw [hn] at hp2
              have hl2 := s2 _ _ hl1
              refine ⟨p2, _, rfl, SqT.of hp2, rfl, ?_⟩
              walk_at "go"
              refine ite_d (fun d => ?_) (fun d => ?_)
              · rw [if_neg (show ¬ lo ≤ 15 by omega)] at sq
                rw [sq, List.append_nil] at sc
                walk_at "go"
                refine ⟨by show 2 ≤ sizeLine; decide, fun p hp => ?_⟩
                rw [sc] at k
                exact k p l as _ ((e1.trans s2).trans (same_new hp)) upd_same (by rw [upd_ne (ne_of_none hl2 hp)]; exact hl2) ((tk.mono s2).mono (same_new hp)) (by omega)
              · rw [if_pos (show lo ≤ 15 by omega)] at sq
                walk_at "go"
                refine ⟨.inl ⟨rfl, _, SqL.of hl2⟩, ?_⟩
                walk_at "go"
                refine ⟨str_fits hx, ?_⟩
                walk_at "go"
                refine ⟨by show 3 ≤ sizeLine; decide, fun p hp => ?_⟩
                walk_at "go"
                refine ⟨l, _, _, rfl, rfl, by rw [upd_ne (ne_of_none hl2 hp)]; exact hl2, by rw [List.length_map]; exact lim, ?_⟩
                walk_at "go"
                exact more _ _ ee _ p s2 hp gt.1 gt.2 sq _ _ _
            · have c4 : ¬ isD ch = true := fun t => c4 ((dig_isD ch).mpr t)
              have ly : ∀ y, symAt x j ch = some y → 0 < y.length ∧ j + y.length ≤ x.cps.toList.length := by
                intro y hy
                unfold symAt at hy
                split at hy
                · rename_i hl
                  have hy := Option.some.inj hy
                  subst hy
                  unfold longAt at hl
                  rw [inV_strs] at hl
                  have l2 := long_len (of_decide_eq_true hl)
                  rw [l2]
                  refine ⟨by decide, ?_⟩
                  refine Nat.not_lt.mp fun t => ?_
                  have l3 : (cutS x (some (j : Int)) (some ((j : Int) + 2))).length ≤ 1 := by
                    have el := str_len x
                    unfold cutS
                    rw [HT.sIx_nat, show ((j : Int) + 2) = ((j + 2 : Nat) : Int) from rfl, HT.sIx_nat, str_len]
                    show ((x.cps.toList.drop _).take _).length ≤ 1
                    rw [List.length_take, List.length_drop]
                    omega
                  omega
                · split at hy
                  · have hy := Option.some.inj hy
                    subst hy
                    exact ⟨Nat.zero_lt_one, by show j + 1 ≤ _; omega⟩
                  · cases hy
              walk_at "go"
              refine ⟨x, j, ch, rfl, hc, hx, fun H2 s2 => ?_⟩
              have hl2 := s2 _ _ hl1
              cases hsy : symAt x j ch with
              | none =>
                have sq : lawScan x (m + 1) j = ([], some j) := by
                  rw [lawScan, hc]
                  dsimp only
                  rw [if_neg c1, if_neg c2, if_neg c3, if_neg c4, hsy]
                rw [sq, List.append_nil] at sc
                walk_at "go"
                refine ⟨by show 2 ≤ sizeLine; decide, fun p hp => ?_⟩
                rw [sc] at k
                exact k p l as _ ((e1.trans s2).trans (same_new hp)) upd_same (by rw [upd_ne (ne_of_none hl2 hp)]; exact hl2) ((tk.mono s2).mono (same_new hp)) (by omega)
              | some y =>
                have sq : lawScan x (m + 1) j = ((("symbol" : Str), y, j) :: (lawScan x m (j + y.length)).1, (lawScan x m (j + y.length)).2) := by
                  rw [lawScan, hc]
                  dsimp only
                  rw [if_neg c1, if_neg c2, if_neg c3, if_neg c4, hsy]
                obtain ⟨y1, y2⟩ := ly y hsy
                walk_at "go"
                refine ⟨.inl ⟨rfl, _, SqL.of hl2⟩, ?_⟩
                walk_at "go"
                refine ⟨by show 3 ≤ sizeLine; decide, fun p hp => ?_⟩
                walk_at "go"
                refine ⟨l, _, _, rfl, rfl, by rw [upd_ne (ne_of_none hl2 hp)]; exact hl2, by rw [List.length_map]; exact lim, ?_⟩
                walk_at "go"
                refine ⟨str_fits (by rw [← str_len]; omega), ?_⟩
                walk_at "go"
                exact more _ _ (j + y.length) _ p s2 hp (by omega) y2 sq _ _ _
    · have hjl : x.cps.toList.length ≤ j := by rw [← str_len]; omega
      have sq : lawScan x (m + 1) j = ([], none) := by
        rw [lawScan, List.getElem?_eq_none hjl]
      rw [sq, List.append_nil] at sc
      walk_at "go"
      exact ⟨by show 2 ≤ sizeLine; decide, fun p hp => back none sc p hp⟩
end
section
/-- an item of a list of texts by a draw -/
theorem atI_strs {xs : List Str} {v : Int} (h0 : 0 ≤ v) (h1 : v < (xs.length : Int)) : ∃ y, y ∈ xs ∧ atI (xs.map V.str) v = some (.str y) := by
  have hk : v.toNat < xs.length := by omega
  have e : v = ((v.toNat : Nat) : Int) := by omega
  refine ⟨xs[v.toNat], List.getElem_mem hk, ?_⟩
  have q : atI (xs.map V.str) ((v.toNat : Nat) : Int) = some (.str xs[v.toNat]) := atI_nat (by rw [List.getElem?_map, List.getElem?_eq_getElem hk] <;> rfl)
  rw [← e] at q
  exact q
theorem atI_sign {x : Str} {v : Int} (h0 : 0 ≤ v) (h1 : v < (x.cps.toList.length : Int)) : ∃ c, c ∈ x.cps.toList ∧ atI x.cps.toList v = some c := by
  have hk : v.toNat < x.cps.toList.length := by omega
  have e : v = ((v.toNat : Nat) : Int) := by omega
  refine ⟨x.cps.toList[v.toNat], List.getElem_mem hk, ?_⟩
  have q : atI x.cps.toList ((v.toNat : Nat) : Int) = some x.cps.toList[v.toNat] := atI_nat (List.getElem?_eq_getElem hk)
  rw [← e] at q
  exact q
theorem cutS_le (x : Str) (a b : Option Int) : (cutS x a b).cps.toList.length ≤ x.cps.toList.length := by
  unfold cutS
  rw [List.length_take, List.length_drop]
  omega
/-- texts of Python's own signs -/
theorem sok_iff (x : Str) : PyData.strOk x = true ↔ ∀ c ∈ x.cps.toList, c < 0x110000 := by
  unfold PyData.strOk
  rw [← Array.all_toList, List.all_eq_true]
  simp only [decide_eq_true_eq]
theorem sok_cut {x : Str} (h : PyData.strOk x = true) (a b : Option Int) : PyData.strOk (cutS x a b) = true := by
  rw [sok_iff] at h ⊢
  intro c hc
  unfold cutS at hc
  exact h c (List.mem_of_mem_drop (List.mem_of_mem_take hc))
theorem sok_app {x y : Str} (h : PyData.strOk x = true) (g : PyData.strOk y = true) : PyData.strOk (x ++ y) = true := by
  rw [sok_iff] at h g ⊢
  rw [Str.cps_append, Array.toList_append]
  intro c hc
  rcases List.mem_append.mp hc with hc | hc
  · exact h c hc
  · exact g c hc
theorem sok_sign {x : Str} {c : Nat} (h : PyData.strOk x = true) (hc : c ∈ x.cps.toList) : PyData.strOk ⟨#[c]⟩ = true := by
  rw [sok_iff] at h ⊢
  intro d hd
  have : d = c := by simpa using hd
  rw [this]
  exact h c hc
end
section
variable {P : Program} {w : World} {K : PySem.W.Frag} {mg : Str → Option Value} {base : Heap}
def spPiece : Sp := fun vs H Q _ => ∃ s : Addr, vs = [.ref s] ∧ Strm H s ∧ ∀ y H', Same H H' → y.length ≤ 40 → PyData.strOk y = true → Q (.str y) H'
theorem ok__law_piece (T : Top w K mg) : FnOk P w K mg base CX0 2 (He.ga K ("_law_piece" : Str)) (fdOf K d__law_piece) ["stream"] spPiece := by
  refine (T.f__law_piece).ok sc__law_piece (fun vs H Q E h => ?_) (fun cdv A outer s H vs Q E hr h => ?_)
  · obtain ⟨s, rfl, _⟩ := h
    rfl
  · obtain ⟨s0, rfl, hS, k⟩ := h
    refine ⟨_, PSs.nox (pss_cons (ps_set (i := 1) sc__law_piece.nd rfl (Or.inl rfl) (pe_call (ok__law_draw (K := K) T) (hr.mono (by decide)) rfl T.g__law_draw T.f__law_draw.kp T.b__law_draw .nil pass0 (pa_cons (pv 0) (pa_cons pe_int pa_nil))))
    (pss_cons (ps_if (pt_cmpR op_eq (pv 1) pe_int (nomark _))
    (pss_one (ps_ret (pe_op op_add_str (pe_op op_mul_str pe_str pe_int) (pe_slice sl_str pe_str po_none (po_some (pe_call (ok__law_draw (K := K) T) (hr.mono (by decide)) rfl T.g__law_draw T.f__law_draw.kp T.b__law_draw .nil pass0 (pa_cons (pv 0) (pa_cons pe_int pa_nil))))))))
    pss_nil)
    (pss_cons (ps_if (pt_cmpR op_eq (pv 1) pe_int (nomark _))
    (pss_one (ps_ret (pe_slice sl_str pe_str po_none (po_some (pe_op op_add pe_int (pe_call (ok__law_draw (K := K) T) (hr.mono (by decide)) rfl T.g__law_draw T.f__law_draw.kp T.b__law_draw .nil pass0 (pa_cons (pv 0) (pa_cons pe_int pa_nil))))))))
    pss_nil)
    (pss_cons (ps_if (pt_cmpR op_eq (pv 1) pe_int (nomark _))
    (pss_one (ps_ret (pe_op op_add_str pe_str (pe_slice sl_str pe_str po_none (po_some (pe_op op_add pe_int (pe_call (ok__law_draw (K := K) T) (hr.mono (by decide)) rfl T.g__law_draw T.f__law_draw.kp T.b__law_draw .nil pass0 (pa_cons (pv 0) (pa_cons pe_int pa_nil)))))))))
    pss_nil)
    (pss_cons (ps_if (pt_cmpR op_eq (pv 1) pe_int (nomark _))
    (pss_one (ps_ret (pe_ix (ix_listK (K := K) rfl) (pe_lst (pa_cons pe_str (pa_cons pe_str (pa_cons pe_str (pa_cons pe_str (pa_cons pe_str (pa_cons pe_str (pa_cons pe_str (pa_cons pe_str (pa_cons pe_str (pa_cons pe_str (pa_cons pe_str (pa_cons pe_str (pa_cons pe_str (pa_cons pe_str pa_nil))))))))))))))) (pe_call (ok__law_draw (K := K) T) (hr.mono (by decide)) rfl T.g__law_draw T.f__law_draw.kp T.b__law_draw .nil pass0 (pa_cons (pv 0) (pa_cons pe_int pa_nil))) (fun _ _ => rfl))))
    pss_nil)
    (pss_cons (ps_if (pt_cmpR op_eq (pv 1) pe_int (nomark _))
    (pss_one (ps_ret (pe_ix (ix_listK (K := K) rfl) (pe_lst (pa_cons pe_str (pa_cons pe_str (pa_cons pe_str (pa_cons pe_str pa_nil))))) (pe_call (ok__law_draw (K := K) T) (hr.mono (by decide)) rfl T.g__law_draw T.f__law_draw.kp T.b__law_draw .nil pass0 (pa_cons (pv 0) (pa_cons pe_int pa_nil))) (fun _ _ => rfl))))
    pss_nil)
    (pss_cons (ps_if (pt_cmpR op_eq (pv 1) pe_int (nomark _))
    (pss_one (ps_ret (pe_ix (ix_listK (K := K) rfl) (pe_lst (pa_cons pe_str (pa_cons pe_str (pa_cons pe_str (pa_cons pe_str (pa_cons pe_str (pa_cons pe_str (pa_cons pe_str (pa_cons pe_str (pa_cons pe_str (pa_cons pe_str pa_nil))))))))))) (pe_call (ok__law_draw (K := K) T) (hr.mono (by decide)) rfl T.g__law_draw T.f__law_draw.kp T.b__law_draw .nil pass0 (pa_cons (pv 0) (pa_cons pe_int pa_nil))) (fun _ _ => rfl))))
    pss_nil)
    (pss_cons (ps_set (i := 2) sc__law_piece.nd rfl (Or.inl rfl) pe_str)
    (pss_one (ps_ret (pe_ix ix_str (pv 2) (pe_call (ok__law_draw (K := K) T) (hr.mono (by decide)) rfl T.g__law_draw T.f__law_draw.kp T.b__law_draw .nil pass0 (pa_cons (pv 0) (pa_cons (pe_callB call_len_str (by rfl) T.n_len PySem.boot_len (pa_cons (pv 2) pa_nil)) pa_nil))) (fun _ _ => rfl)))))))))))), ?_⟩
    walk_at "go"
    intro v0 _ _
    walk_at "go"
    refine ite_d (fun c => ?_) (fun c => ?_)
    · walk_at "go"
      refine ⟨⟨by decide, fun _ _ => by decide +kernel, fun _ _ => by decide +kernel⟩, ?_⟩
      walk_at "go"
      intro v2 h0 h1
      have l1 := cutS_le "xyz" none (some v2)
      have e1 : (Str.ofString "xyz").cps.toList.length = 3 := by decide +kernel
      have e2 : (Txt.mul (Str.ofString "ab_c9") 4).length = 20 := by decide +kernel
      rw [e1, ← str_len] at l1
      walk_at "go"
      refine ⟨by rw [e2, sizeLine_eq]; omega, ?_⟩
      exact k _ H (Same.refl H) (by rw [Str.length_append, e2]; omega) (sok_app (by decide +kernel) (sok_cut (by decide +kernel) _ _))
    walk_at "go"
    refine ite_d (fun c => ?_) (fun c => ?_)
    · walk_at "go"
      intro v2 h0 h1
      walk_at "go"
      have l1 := cutS_le "1234567890123456789" none (some (13 + v2))
      have e1 : (Str.ofString "1234567890123456789").cps.toList.length = 19 := by decide +kernel
      rw [e1, ← str_len] at l1
      exact k _ H (Same.refl H) (by omega) (sok_cut (by decide +kernel) _ _)
    walk_at "go"
    refine ite_d (fun c => ?_) (fun c => ?_)
    · walk_at "go"
      intro v2 h0 h1
      have l1 := cutS_le "1234567890123456789" none (some (13 + v2))
      have e1 : (Str.ofString "1234567890123456789").cps.toList.length = 19 := by decide +kernel
      have e2 : (Str.ofString "0.").length = 2 := by decide +kernel
      rw [e1, ← str_len] at l1
      walk_at "go"
      refine ⟨by rw [e2, sizeLine_eq]; omega, ?_⟩
      exact k _ H (Same.refl H) (by rw [Str.length_append, e2]; omega) (sok_app (by decide +kernel) (sok_cut (by decide +kernel) _ _))
    walk_at "go"
    refine ite_d (fun c => ?_) (fun c => ?_)
    · walk_at "go"
      intro p hp
      have hS1 := hS.mono (same_new (o := .lst [.str "==", .str "<", .str "=", .str "<>", .str ">", .str "/", .str "//", .str "///", .str ".", .str "..", .str "1.", .str "2.5", .str "=<", .str "=="]) hp)
      walk_at "go"
      intro v2 h0 h1
      obtain ⟨y, hy, ha⟩ := atI_strs (xs := ["==", "<", "=", "<>", ">", "/", "//", "///", ".", "..", "1.", "2.5", "=<", "=="]) h0 h1
      refine r_ixL (SqL.of upd_same) ha ?_
      have all : ∀ y ∈ (["==", "<", "=", "<>", ">", "/", "//", "///", ".", "..", "1.", "2.5", "=<", "=="] : List Str), y.length ≤ 40 ∧ PyData.strOk y = true := by decide +kernel
      exact k y _ (same_new hp) (all y hy).1 (all y hy).2
    walk_at "go"
    refine ite_d (fun c => ?_) (fun c => ?_)
    · walk_at "go"
      intro p hp
      have hS1 := hS.mono (same_new (o := .lst [.str " ", .str "\n", .str "\t", .str "  "]) hp)
      walk_at "go"
      intro v2 h0 h1
      obtain ⟨y, hy, ha⟩ := atI_strs (xs := [" ", "\n", "\t", "  "]) h0 h1
      refine r_ixL (SqL.of upd_same) ha ?_
      have all : ∀ y ∈ ([" ", "\n", "\t", "  "] : List Str), y.length ≤ 40 ∧ PyData.strOk y = true := by decide +kernel
      exact k y _ (same_new hp) (all y hy).1 (all y hy).2
    walk_at "go"
    refine ite_d (fun c => ?_) (fun c => ?_)
    · walk_at "go"
      intro p hp
      have hS1 := hS.mono (same_new (o := .lst [.str " // x", .str "end", .str "_", .str "equation", .str "1x", .str "x1", .str "Aa", .str "#", .str "!", .str "&"]) hp)
      walk_at "go"
      intro v2 h0 h1
      obtain ⟨y, hy, ha⟩ := atI_strs (xs := [" // x", "end", "_", "equation", "1x", "x1", "Aa", "#", "!", "&"]) h0 h1
      refine r_ixL (SqL.of upd_same) ha ?_
      have all : ∀ y ∈ ([" // x", "end", "_", "equation", "1x", "x1", "Aa", "#", "!", "&"] : List Str), y.length ≤ 40 ∧ PyData.strOk y = true := by decide +kernel
      exact k y _ (same_new hp) (all y hy).1 (all y hy).2
    have el : (Str.ofString "(){}[],;.=<>+-*/: abXY09_ \"'!#$&?@^|~").length = 37 := by decide +kernel
    have eo : PyData.strOk (Str.ofString "(){}[],;.=<>+-*/: abXY09_ \"'!#$&?@^|~") = true := by decide +kernel
    generalize Str.ofString "(){}[],;.=<>+-*/: abXY09_ \"'!#$&?@^|~" = sg at *
    walk_at "go"
    have es : sg.length ≤ sizeLine := by rw [el, sizeLine_eq]; omega
    refine ⟨es, ?_⟩
    refine ⟨s0, (sg.length : Int), rfl, hS, (by rw [el]; decide), (by rw [el]; decide), fun v2 h0 h1 => ?_⟩
    obtain ⟨c, hm, hc⟩ := atI_sign (x := sg) h0 (by rw [← str_len]; exact h1)
    refine ⟨sg, _, _, rfl, rfl, es, hc, ?_⟩
    exact k _ H (Same.refl H) (show 1 ≤ 40 by decide) (sok_sign eo hm)
end
section
variable {P : Program} {w : World} {K : PySem.W.Frag} {mg : Str → Option Value} {base : Heap}
/-- the tokens as data -/
def tokD (t : Str × Str × Nat) : PyData := .tuple [.str t.1, .str t.2.1, .int (t.2.2 : Int)]
theorem TokL.dp {H : Hp} : ∀ {l : List Addr} {ts : List (Str × Str × Nat)}, TokL H l ts → DpAll K H (l.map V.ref) (ts.map tokD)
  | [], [], .nil => .nil
  | _ :: _, _ :: _, .cons a b => .cons (.tup (SqT.of a) (.cons (.str _) (.cons (.str _) (.cons (.int _) .nil)))) (TokL.dp b)
theorem kind_sok (y : Str) (c : Nat) : PyData.strOk (kindOf y c) = true := by
  unfold kindOf
  repeat' split
  all_goals decide +kernel
theorem scan_sok {x : Str} (h : PyData.strOk x = true) : ∀ (n i : Nat), PyData.canLayAll0 ((scan x n i).1.map tokD) = true
  | 0, _ => by rw [scan]; rfl
  | n + 1, i => by
    cases hc : x.cps.toList[i]? with
    | none => rw [scan_none (List.getElem?_eq_none_iff.mp hc)]; rfl
    | some c =>
      rw [scan_some hc]
      split
      · rfl
      · have ih := scan_sok h n (nextAt x.cps.toList (tokEnd x i c))
        show (PyData.canLay0 (tokD _) && PyData.canLayAll0 _) = true
        rw [Bool.and_eq_true]
        refine ⟨?_, ih⟩
        show (PyData.strOk _ && (PyData.strOk _ && (true && true))) = true
        rw [kind_sok, show PyData.strOk (piece x i (tokEnd x i c)) = true from sok_cut h _ _]
        rfl
theorem depth_toks : ∀ ts : List (Str × Str × Nat), PyData.depthAll (ts.map tokD) ≤ 1
  | [] => by decide
  | t :: ts => by
    show max (PyData.depth (tokD t)) (PyData.depthAll (ts.map tokD)) ≤ 1
    have := depth_toks ts
    have e : PyData.depth (tokD t) = 1 := rfl
    omega
theorem toks_shaped {x : Str} (h : PyData.strOk x = true) : SeqAt.shaped (.list ((lexed x).1.map tokD)) = true := by
  unfold SeqAt.shaped
  rw [Bool.and_eq_true, decide_eq_true_eq]
  refine ⟨scan_sok h _ _, ?_⟩
  have := depth_toks (lexed x).1
  show PyData.depthAll ((lexed x).1.map tokD) + 1 ≤ 64
  omega
end
section
variable {P : Program} {w : World} {K : PySem.W.Frag} {mg : Str → Option Value} {base : Heap}
/-- what is told of a source -/
def toldD (x : Str) : PyData := if (lexed x).2 < x.cps.toList.length then .tuple [.str "refused", .int (((lexed x).2 : Nat) : Int)] else .list ((lexed x).1.map tokD)
def spTold21 (K : PySem.W.Frag) : Sp := fun vs H Q _ => ∃ x : Str, vs = [.str x] ∧ x.cps.toList.length ≤ 100000 ∧ ∀ v H', Same H H' → Dp K H' v (toldD x) → Q v H'
theorem ok__law_told (T : Top w K mg) : FnOk P w K mg base CX0 7 (He.ga K ("_law_told" : Str)) (fdOf K d__law_told) ["text"] (spTold21 K) := by
  refine (T.f__law_told).ok sc__law_told (fun vs H Q E h => ?_) (fun cdv A outer s H vs Q E hr h => ?_)
  · obtain ⟨x, rfl, _⟩ := h
    rfl
  · obtain ⟨x, rfl, hx, k⟩ := h
    unfold toldD at k
    refine ⟨_, PSs.nox (pss_cons (ps_try_as (i := 1) (Wout := fun _ _ _ _ => False) rfl rfl sc__law_told.nd rfl rfl ⟨rfl, by decide, .inl T.g_BadText⟩ takes0
    (fun W pn xe tk _ => (pss_one (ps_ret (pe_callS (ok_tokens (K := K) T) (hr.mono (by decide)) rfl T.g_tokens T.f_tokens.kp T.b_tokens (fun σ => passAt tk σ) (pa_cons (pv 0) pa_nil)))))
    (fun a oe cls d pn hz hf => (pss_given (P := cls = .ref (He.ga K ("BadText" : Str))) fun q => (pss_one (ps_if (PW.pt (pw_and (pt_val (pe_callB (call_isD q (excCB_ok T.x_excC_BadText) hz hf) (by rfl) T.n_isinstance (by decide +kernel) (pa_cons (pv 1) (pa_cons (pe_glob (v := .ref (He.ga K ("LinkworkError" : Str))) rfl T.g_LinkworkError rfl) pa_nil)))) (pw_and1 (pt_val (pe_callB (call_isD q (excCB_ok T.x_excC_BadText) hz hf) (by rfl) T.n_isinstance (by decide +kernel) (pa_cons (pv 1) (pa_cons (pe_bltn (v := .ty "ValueError") rfl T.n_ValueError (by decide +kernel) rfl) pa_nil)))))))
    (pss_one (ps_ret (pe_tup (pa_cons pe_str (pa_cons (pe_xf (xfB_ok T.x_xfr_BadText) (He.eqO_ok T.x_xf_BadText_at) hz hf (pv 1)) pa_nil)))))
    pss_nil)))))
    (pss_one (ps_ret pe_int))), ?_⟩
    walk_at "go"
    refine ⟨fun hb d H' e1 nd hd => ?_, fun hb l as H' e1 nl hl tk => ?_⟩
    · rw [if_pos hb] at k
      refine ⟨true, T.exm_BadText_BadText, fun _ a ha => ⟨rfl, ?_⟩, fun q => Bool.noConfusion q⟩
      walk_at "go"
      refine ⟨_, _, true, d, _, rfl, fun _ e => e, of_decide_eq_true T.x_kit_BadText_LinkworkError, rfl, hd, ?_⟩
      walk_at "go"
      refine ⟨_, _, true, d, _, rfl, fun _ e => e, of_decide_eq_true T.x_kit_BadText_t_ValueError, rfl, hd, ?_⟩
      walk_at "go"
      refine ⟨rfl, rfl, d, _, _, rfl, hd, rfl, ?_⟩
      walk_at "go"
      refine ⟨by show 2 ≤ sizeLine; decide, fun p hp => ?_⟩
      exact k _ _ (e1.trans (same_new hp)) (.tup (SqT.of upd_same) (.cons (.str _) (.cons (.int _) .nil)))
    · rw [if_neg hb] at k
      exact k _ H' e1 (.lst (SqL.of hl) tk.dp)
theorem told_shaped {x : Str} (h : PyData.strOk x = true) : SeqAt.shaped (toldD x) = true := by
  unfold toldD
  split
  · generalize (((lexed x).2 : Nat) : Int) = i
    unfold SeqAt.shaped
    rw [Bool.and_eq_true]
    exact ⟨by show (PyData.strOk "refused" && (true && true)) = true; decide +kernel, rfl⟩
  · unfold SeqAt.shaped
    rw [Bool.and_eq_true, decide_eq_true_eq]
    refine ⟨scan_sok h _ _, ?_⟩
    have := depth_toks (lexed x).1
    show PyData.depthAll ((lexed x).1.map tokD) + 1 ≤ 64
    omega
theorem told_law (x : Str) : toldD x = match (lawLexed x).2 with
    | some i => .tuple [.str "refused", .int (i : Int)]
    | none => .list ((lawLexed x).1.map tokD) := by
  have e : lawLexed x = toL x (lexed x) := law_scan x _ _ 0 (by omega) (by have := le_nextAt x.cps.toList _ 0 (Nat.le_refl _); omega)
  rw [e]
  unfold toldD toL
  by_cases h : (lexed x).2 < x.cps.toList.length
  · simp only [if_pos h]
  · simp only [if_neg h]
end
section
variable {K : PySem.W.Frag} {H H' : Hp}
theorem sqL_mono {a : Addr} {xs : List V} (e : Same H H') (h : SqL K H a xs) : SqL K H' a xs := by
  rcases h with (h | ⟨o, h⟩) | h
  · exact .inl (.inl (e _ _ h))
  · exact .inl (.inr ⟨o, e _ _ h⟩)
  · exact .inr h
theorem sqT_mono {a : Addr} {xs : List V} (e : Same H H') (h : SqT K H a xs) : SqT K H' a xs := by
  rcases h with (h | ⟨o, h⟩) | h
  · exact .inl (.inl (e _ _ h))
  · exact .inl (.inr ⟨o, e _ _ h⟩)
  · exact .inr h
mutual
theorem dp_mono (e : Same H H') : ∀ (d : PyData) {v : V}, Dp K H v d → Dp K H' v d
  | _, _, .non => .non
  | _, _, .bl b => .bl b
  | _, _, .int i => .int i
  | _, _, .str x => .str x
  | _, _, .lst h g => .lst (sqL_mono e h) (dpAll_mono e _ g)
  | _, _, .tup h g => .tup (sqT_mono e h) (dpAll_mono e _ g)
theorem dpAll_mono (e : Same H H') : ∀ (ds : List PyData) {vs : List V}, DpAll K H vs ds → DpAll K H' vs ds
  | _, _, .nil => .nil
  | _, _, .cons h g => .cons (dp_mono e _ h) (dpAll_mono e _ g)
end
end
section
variable {P : Program} {w : World} {K : PySem.W.Frag} {mg : Str → Option Value} {base : Heap}
def spLaw (K : PySem.W.Frag) : Sp := fun vs H Q _ => ∃ (a : Addr) (ns : List Int), vs = [.ref a] ∧ SqL K H a (ns.map V.int) ∧ ns.length ≤ 63 ∧ ∀ H', Q (.bl true) H'
theorem ok_law (T : Top w K mg) : FnOk P w K mg base CX0 8 (He.ga K ("law" : Str)) (fdOf K d_law) ["script"] (spLaw K) := by
  refine (T.f_law).ok sc_law (fun vs H Q E h => ?_) (fun cdv A outer s H vs Q E hr h => ?_)
  · obtain ⟨a, ns, rfl, _⟩ := h
    rfl
  · obtain ⟨a, ns, rfl, hS, h63, k⟩ := h
    refine ⟨_, PSs.nox (pss_cons (ps_set (i := 1) sc_law.nd rfl (Or.inl rfl) (pe_call (ok__law_stream (K := K) T) (hr.mono (by decide)) rfl T.g__law_stream T.f__law_stream.kp T.b__law_stream .nil pass0 (pa_cons (pv 0) pa_nil)))
    (pss_cons (ps_set (i := 2) sc_law.nd rfl (Or.inl rfl) pe_str)
    (pss_cons (ps_for PassesOwn.never rfl (pi_range1 rfl T.n_range (pa_cons (pe_op op_add pe_int (pe_call (ok__law_draw (K := K) T) (hr.mono (by decide)) rfl T.g__law_draw T.f__law_draw.kp T.b__law_draw .nil pass0 (pa_cons (pv 1) (pa_cons pe_int pa_nil)))) pa_nil)) (pg_name (i := 3) sc_law.nd rfl (Or.inl rfl))
    (pss_one (ps_set (i := 2) sc_law.nd rfl (Or.inl rfl) (pe_op op_add_str (pv 2) (pe_call (ok__law_piece (K := K) T) (hr.mono (by decide)) rfl T.g__law_piece T.f__law_piece.kp T.b__law_piece .nil pass0 (pa_cons (pv 1) pa_nil))))))
    (pss_cons (ps_asg (pe_call (ok__law_lex (K := K) T) (hr.mono (by decide)) rfl T.g__law_lex T.f__law_lex.kp T.b__law_lex .nil pass0 (pa_cons (pv 2) pa_nil)) (pg_tup (by rfl) (pgs_cons (pg_name (i := 4) sc_law.nd rfl (Or.inl rfl)) (pgs_cons (pg_name (i := 5) sc_law.nd rfl (Or.inl rfl)) pgs_nil))))
    (pss_cons (ps_set (i := 6) sc_law.nd rfl (Or.inl rfl) (pv 4))
    (C8.pss_cut (ps_if (pt_cmpR op_notN (pv 5) pe_non (nomark _))
    (pss_one (ps_set (i := 6) sc_law.nd rfl (Or.inl rfl) (pe_tup (pa_cons pe_str (pa_cons (pv 5) pa_nil)))))
    pss_nil)
    (pss_one (ps_ret (pe_cmpR (op_eqDK (K := K) rfl hr.units) (pe_call (ok__law_told (K := K) T) (hr.mono (by decide)) rfl T.g__law_told T.f__law_told.kp T.b__law_told .nil pass0 (pa_cons (pv 2) pa_nil)) (pv 6) (nomark _)))))))))), ?_⟩
    walk_at "go"
    refine ⟨a, ns, rfl, hS, h63, fun s1 H1 e1 hs1 => ?_⟩
    walk_at "go"
    intro n h0 h1
    walk_at "go"
    refine for_rng (n := (1 + n).toNat) (lo := 0) (fun i σ H' => Same H1 H' ∧ ∃ (x : Str) (kv fv bv dv : Option V), σ = [some (.ref a), some (.ref s1), some (.str x), kv, fv, bv, dv] ∧ x.length ≤ 40 * i ∧ PyData.strOk x = true) ⟨Same.refl H1, "", _, _, _, _, rfl, by decide +kernel, by decide +kernel⟩ ?_ ?_
    · rintro i σ H' hi ⟨e2, x, kv, fv, bv, dv, rfl, hx, hk⟩
      have hs2 := hs1.mono e2
      walk_at "go"
      intro y H3 e3 hy hyk
      refine ⟨x, y, rfl, rfl, by rw [sizeLine_eq]; omega, e2.trans e3, x ++ y, _, _, _, _, rfl, by rw [Str.length_append]; omega, sok_app hk hyk⟩
    · rintro σ H' ⟨e2, x, kv, fv, bv, dv, rfl, hx, hk⟩
      have hx1 : x.cps.toList.length ≤ 100000 := by rw [← str_len]; omega
      walk_at "go"
      intro p l as H3 e3 hp hl tk ha
      refine ⟨p, _, rfl, SqT.of hp, rfl, ?_⟩
      walk_at "go"
      have td := told_law x
      refine r_cut (fun σ H4 => ∃ (fv bv : Option V) (dv : V), σ = [some (.ref a), some (.ref s1), some (.str x), kv, fv, bv, some dv] ∧ Dp K H4 dv (toldD x)) ?_ ?_
      · cases hb : (lawLexed x).2 with
        | none =>
          rw [hb] at td
          walk_at "go"
          refine ⟨_, _, _, rfl, ?_⟩
          rw [td]
          exact .lst (SqL.of hl) tk.dp
        | some i =>
          rw [hb] at td
          walk_at "go"
          refine ⟨by show 2 ≤ sizeLine; decide, fun p2 hp2 => ⟨_, _, _, rfl, ?_⟩⟩
          rw [td]
          exact .tup (SqT.of upd_same) (.cons (.str _) (.cons (.int _) .nil))
      · rintro σ H4 ⟨fv, bv, dv, rfl, hd⟩
        walk_at "go"
        intro v H5 e5 hv
        walk_at "go"
        have sh := told_shaped hk
        refine ⟨_, _, hv, dp_mono e5 _ hd, sh, sh, ?_⟩
        rw [SeqAt.eqv_refl _ (SeqAt.canLay_of_shaped sh)]
        exact k H5
end
theorem facts {P : Program} {w : World} {K : PySem.W.Frag} {h : Heap} {mg : Str → Option Value} {f : Addr} (X : K.In h) (G : h.Ns mainGlobals mg) (hfa : mg ("law" : Str) = some (.ref f)) (c : SaysS faL fnL exB K) :
    ∃ fd : FuncData, (∀ (s : Shared) (v : Value), BindsTo s fd ⟨[v], []⟩ [("script", v)]) ∧ ∀ base : Heap, K.In base → base.Ns mainGlobals mg → FnOk P w K mg base CX0 8 f fd ["script"] (spLaw K) := by
  have T : Top w K mg := ⟨h, X, G, c⟩
  have e := hfa.symm.trans T.g_law
  cases e
  have b := FunD.bindsA (ps := ["script"]) (show FunD K "law" "law" (defArgs s_law) (defBody s_law) (defScope s_law) [] (d_law.kws K) (He.ga K "law") (fdOf K d_law) from T.f_law) fun _ _ _ _ _ _ us hl => match us, hl with | [_], _ => rfl
  exact ⟨fdOf K d_law, fun s v => b s [v] rfl, fun base _ _ => ok_law T⟩
end Lk
open PySem PySem.W PySem.Calls PyProof.Rows
set_option maxRecDepth 100000 in
set_option maxHeartbeats 0 in
theorem PySem.Challenge.cw_linkwork_k21_bad_tokens_holds : PySem.Challenge.rw_linkwork_k21_bad_tokens.Holds := by
  w_on; o_law
  refine HeadRun.head_any (r := OpenLaw.row PySem.Challenge.rw_linkwork_k21_bad_tokens) (q := Lk.qv) (H := Lk.hk) (ob := Lk.ob) (M := 4000) (loose := Lk.looseL) (d := HandSHeadRun.topDef (OpenLaw.row PySem.Challenge.rw_linkwork_k21_bad_tokens).prog 30) (kwd := []) Lk.ob_eq
    (by kernel_rfl) (fun s => by kernel_rfl) Lk.run (by kernel_rfl) (by kernel_rfl) (by kernel_rfl) (by rfl) (by first | assumption | decide +kernel) (by decide +kernel) ⟨rfl, rfl, rfl, rfl, rfl, by decide +kernel⟩ ?hw ?hc
  case hw => w_witness2
  case hc =>
    refine L2.walk_ofE (l := PySem.Challenge.rw_linkwork_k21_bad_tokens) (n := 63) (k := 8) (x := "script") (CX := L2.CX0) rfl (by decide) (by kernel_rfl) ⟨rfl, by decide, by decide⟩ ?F (fun _ _ _ _ z => z)
    intro w mg fa h Y G hmg0
    obtain ⟨K, KX, c⟩ := Y
    have hmg : mg ("law" : PySem.Str) = some (.ref fa) := by
      have e : (HandSHeadRun.topDef (OpenLaw.row PySem.Challenge.rw_linkwork_k21_bad_tokens).prog 30).name = ("law" : PySem.Str) := by kernel_rfl
      rw [← e]
      exact hmg0
    obtain ⟨fd, hb, hF⟩ := Lk.facts (P := (PySem.Challenge.rw_linkwork_k21_bad_tokens).prog) (w := w) KX G hmg c
    exact ⟨K, fd, Lk.spLaw K, KX, hb, fun H a ns hl _ hS => ⟨a, ns, rfl, hS, hl, fun _ => rfl⟩, hF⟩

