import PyProof.Rows.All
import Wide.All
import OpenK.AllK
import Wide.FinOn
import KE.KStateDown
import HandS.Base
import HandS.Call
import HandS.List
import HandS.Comp
import HandS.Ends
import HandS.Dict
import HandS.Iter
import HandS.Text
import HandS.StrMore
import HandS.More
import HandS.Words
import HandS.WordsList
import HandS.WordsExc
import HandS.Exc
import HandS.ExcOwn
import HandS.ExcIs
import HandS.TryOnly
import HandS.IsInst
import HandS.Codes
import HandS.Defaults
import HandS.Wide
import HandS.Gcd
import KE.KOpsOwn
import KE.HD0
import KE.HD1
import KE.HD2
import KE.HD3
import HandS.Head0
import HandS.Head1
import HandS.Head2
import HandS.HeadEnd
import HandS.HeadHook1
import HandS.HeadHook2
import HandS.HeadHook3
import HandS.HeadHook4
import Flt.Len
import PyProof.NoPylong
import HandS.ExcInit
import HandS.ExcField
import HandS.FStr
import HandS.Evl
import HandS.WideBits
import HandS.Style
import HandS.Walk
import PySem.Challenge.RW_linkwork_k04_texts_of_values
set_option Elab.async false
set_option linter.all false
set_option maxRecDepth 100000
namespace Lk
open PySem PySem.Spec L2
open PyProof.Rows hiding St
/-! ### the head's facts, the interpreter's own statics among what is written -/
def asS (g : Addr → Option Obj) (n : Nat) : List Addr := He.asD g n ++ [cStatics]
abbrev AlS : Type := He.AlD × Bool
def obsS (n : Nat) (fa : List He.Fa) (fn : List He.DefD) (ex : PySem.W.Frag → Bool) (g : Addr → Option Obj) : AlS := (He.obsD fa fn (He.frT g (asS g n)), ex (He.frT g (asS g n)))
structure SaysS (fa : List He.Fa) (fn : List He.DefD) (ex : PySem.W.Frag → Bool) (K : PySem.W.Frag) : Prop where
  d : He.SaysD fa fn K
  more : ex K = true
def hookS (n : Nat) (fa : List He.Fa) (fn : List He.DefD) (ex : PySem.W.Frag → Bool) : PySem.W.Hook where
  α := AlS
  obs := fun s => obsS n fa fn ex s.heap.get?
  val := fun _ => (He.valD fn, true)
  says := fun _ h => ∃ K : PySem.W.Frag, K.In h ∧ SaysS fa fn ex K
  of := fun _ _ e => ⟨_, He.frT_in, ⟨congrArg (fun z : AlS => z.1) e, congrArg (fun z : AlS => z.2) e⟩⟩
  keeps := fun _ _ _ z k => by
    obtain ⟨K, hK, c⟩ := z
    exact ⟨K, PySem.W.Frag.In.keeps hK k, c⟩
theorem obsS_eq {n : Nat} {fa : List He.Fa} {fn : List He.DefD} {ex : PySem.W.Frag → Bool} {g : Addr → Option Obj} {s : Shared} (h : ∀ a, g a = s.heap.get? a) : obsS n fa fn ex g = (hookS n fa fn ex).obs s := by
  have e : g = s.heap.get? := funext h
  rw [e] <;> rfl
/-! ### steps of a reading, from the left -/
section
variable {σ : St} {H : Hp} {Q : VK} {ta tb te : TE} {i : Nat} {v x y : V} {nx : St → Hp → Prop} {rt : VK} {bk ct : St → Hp → Prop} {t u : TS} {c : TT}
theorem r_seq (h : t ⟨fun σ H => u ⟨nx, rt, bk, ct⟩ σ H, rt, bk, ct⟩ σ H) : tSeq t u ⟨nx, rt, bk, ct⟩ σ H := h
theorem r_set (h : te σ H fun x H1 => nx (σ.set i (some x)) H1) : tAsg te (gName i) ⟨nx, rt, bk, ct⟩ σ H := h
theorem r_ret (h : te σ H rt) : tRet te ⟨nx, rt, bk, ct⟩ σ H := h
theorem r_next (h : nx σ H) : tNext ⟨nx, rt, bk, ct⟩ σ H := h
theorem r_drop (h : te σ H fun _ H1 => nx σ H1) : tDrop te ⟨nx, rt, bk, ct⟩ σ H := h
theorem r_if (h : c σ H fun b H1 => if b = true then t ⟨nx, rt, bk, ct⟩ σ H1 else u ⟨nx, rt, bk, ct⟩ σ H1) : tIfS c t u ⟨nx, rt, bk, ct⟩ σ H := h
theorem r_brk (h : bk σ H) : tBreak ⟨nx, rt, bk, ct⟩ σ H := h
theorem r_cont (h : ct σ H) : tCont ⟨nx, rt, bk, ct⟩ σ H := h
theorem r_var (e : σ[i]? = some (some v)) (h : Q v H) : tVar i σ H Q := ⟨v, e, h⟩
theorem r_c (h : Q v H) : tC v σ H Q := h
theorem r_op {r : R2} (h : ta σ H fun x H1 => tb σ H1 fun y H2 => r x y H2 Q) : tOp r ta tb σ H Q := h
theorem r_un {r : V → Hp → VK → Prop} (h : ta σ H fun x H1 => r x H1 Q) : tUn r ta σ H Q := h
theorem r_I0 {g : Int → Int → V} {i j : Int} (h : Q (g i j) H) : rI0 g (.int i) (.int j) H Q := ⟨i, j, rfl, rfl, h⟩
theorem r_I {C : Int → Int → Prop} {g : Int → Int → V} {i j : Int} (hc : C i j) (h : Q (g i j) H) : rI C g (.int i) (.int j) H Q := ⟨i, j, rfl, rfl, hc, h⟩
theorem r_U {g : Int → V} {i : Int} (h : Q (g i) H) : rU g (.int i) H Q := ⟨i, rfl, h⟩
theorem r_eq (hs : scal x y = true) (h : Q (.bl (decide (x = y))) H) : rEq x y H Q := ⟨hs, h⟩
theorem r_ne (hs : scal x y = true) (h : Q (.bl (!decide (x = y))) H) : rNe x y H Q := ⟨hs, h⟩
theorem r_test {P : Bool → Hp → Prop} (h : te σ H fun x H' => ∃ k, x = .bl k ∧ P k H') : tTest te σ H P := h
theorem r_B {P : Bool → Hp → Prop} (h : te σ H fun x H' => ∃ k, x = .bl k ∧ P k H') : tB te σ H P := h
theorem r_bl {b : Bool} {P : Bool → Prop} (h : P b) : ∃ k, V.bl b = .bl k ∧ P k := ⟨b, rfl, h⟩
theorem r_nilA {P : List V → Hp → Prop} (h : P [] H) : tNil σ H P := h
theorem r_consA {tr : TA} {P : List V → Hp → Prop} (h : te σ H fun x H1 => tr σ H1 fun xs H2 => P (x :: xs) H2) : tCons te tr σ H P := h
theorem r_call {sp : Sp} {dvs : List V} {E : XK} {t : TA} (h : t σ H fun vs H1 => sp (vs ++ dvs) H1 Q E) : tCall sp dvs E t σ H Q := h
theorem r_callS {sp : Sp} {E : St → XK} {t : TA} (h : t σ H fun vs H1 => sp vs H1 Q (E σ)) : tCallS sp E t σ H Q := h
theorem r_CB {r : List V → Hp → VK → Prop} {t : TA} (h : t σ H fun vs H1 => r vs H1 Q) : tCB r t σ H Q := h
theorem r_tup {t : TA} (h : t σ H fun xs H1 => xs.length ≤ sizeLine ∧ ∀ p, H1 p = none → Q (.ref p) (upd H1 p (.tup xs))) : tTup t σ H Q := h
theorem r_lst {t : TA} (h : t σ H fun xs H1 => xs.length ≤ sizeLine ∧ ∀ p, H1 p = none → Q (.ref p) (upd H1 p (.lst xs))) : tLst t σ H Q := h
theorem r_and {u : TT} {P : Bool → Hp → Prop} (h : c σ H fun k H1 => if k = true then u σ H1 P else P false H1) : tAnd c u σ H P := h
theorem r_or {u : TT} {P : Bool → Hp → Prop} (h : c σ H fun k H1 => if k = true then P true H1 else u σ H1 P) : tOr c u σ H P := h
theorem r_not {P : Bool → Hp → Prop} (h : c σ H fun k H1 => P (!k) H1) : tNot c σ H P := h
theorem r_andV (h : ta σ H fun x H1 => ∃ k, x = .bl k ∧ if k = true then tb σ H1 Q else Q (.bl false) H1) : tAndV ta tb σ H Q := h
theorem r_orV (h : ta σ H fun x H1 => ∃ k, x = .bl k ∧ if k = true then Q (.bl true) H1 else tb σ H1 Q) : tOrV ta tb σ H Q := h
theorem r_notV (h : ta σ H fun x H1 => ∃ k, x = .bl k ∧ Q (.bl (!k)) H1) : tNotV ta σ H Q := h
theorem r_ifE (h : c σ H fun k H1 => if k = true then ta σ H1 Q else tb σ H1 Q) : tIf c ta tb σ H Q := h
theorem r_ixL {K : PySem.W.Frag} {p : Addr} {xs : List V} {i : Int} (hs : SqL K H p xs) (ha : atI xs i = some v) (h : Q v H) : rIxL K (.ref p) (.int i) H Q := ⟨p, xs, i, v, rfl, rfl, hs, ha, h⟩
theorem r_ixT {K : PySem.W.Frag} {p : Addr} {xs : List V} {i : Int} (hs : SqT K H p xs) (ha : atI xs i = some v) (h : Q v H) : rIxT K (.ref p) (.int i) H Q := ⟨p, xs, i, v, rfl, rfl, hs, ha, h⟩
theorem r_fld {K : PySem.W.Frag} {f : Str} (h : ta σ H fun x H1 => ∃ a C dx fs v, x = .ref a ∧ H1 a = some (.ins C dx fs) ∧ Cls K C ∧ NoAttr K C f ∧ fs.lookup f = some v ∧ Q v H1) : tFld K ta f σ H Q := h
theorem r_sub {to ti : TE} {ts : TSet} {D : St → Hp → Prop} (h : to σ H fun o H1 => ti σ H1 fun i H2 => ts o i v H2 fun H3 => D σ H3) : gSub to ti ts v σ H D := h
theorem r_asg {g : TG} (h : te σ H fun x H1 => g x σ H1 nx) : tAsg te g ⟨nx, rt, bk, ct⟩ σ H := h
theorem r_setL {D : Hp → Prop} {p : Addr} {xs : List V} {k : Int} {j : Nat} (hp : H p = some (.lst xs)) (hj : ixN xs.length k = some j) (h : D (upd H p (.lst (xs.set j v)))) : rSetL (.ref p) (.int k) v H D := ⟨p, xs, k, j, rfl, rfl, hp, hj, h⟩
theorem r_par {i j : Nat} {ta : TA} (h : ta σ H fun vs H1 => ∃ v w, vs = [v, w] ∧ nx ((σ.set i (some v)).set j (some w)) H1) : tPar i j ta ⟨nx, rt, bk, ct⟩ σ H := h
theorem r_par2 {v w : V} {P : V → V → Prop} (h : P v w) : ∃ a b, [v, w] = [a, b] ∧ P a b := ⟨v, w, rfl, h⟩
theorem ite_d {p A B : Prop} [Decidable p] (h1 : p → A) (h2 : ¬ p → B) : if decide p = true then A else B := by
  by_cases h : p
  · rw [if_pos (decide_eq_true h)]; exact h1 h
  · rw [if_neg (by simp [h])]; exact h2 h
theorem ite_nd {p A B : Prop} [Decidable p] (h1 : ¬ p → A) (h2 : p → B) : if (!decide p) = true then A else B := by
  by_cases h : p
  · rw [if_neg (by simp [h])]; exact h2 h
  · rw [if_pos (by simp [h])]; exact h1 h
theorem ite_b {b : Bool} {A B : Prop} (h1 : b = true → A) (h2 : b = false → B) : if b = true then A else B := by
  cases b with
  | true => exact if_pos rfl ▸ h1 rfl
  | false => exact if_neg Bool.false_ne_true ▸ h2 rfl
theorem vint_inj {i j : Int} (h : V.int i = V.int j) : i = j := V.int.inj h
theorem vint_ne {i j : Int} (h : ¬ V.int i = V.int j) : ¬ i = j := fun e => h (congrArg V.int e)
theorem vstr_inj {i j : Str} (h : V.str i = V.str j) : i = j := V.str.inj h
end
/-- a module's constant -/
theorem pe_globE {X : Cx} {x : Str} {v : V} {pos : Pos} (hg : Gl X x) (h : ∃ u, X.mg x = some u ∧ RelV v u) (hd : (x == ("__debug__" : Str)) = false := by decide) : PE X (.Name x pos) (tC v) := by
  obtain ⟨u, hm, r⟩ := h
  exact pe_glob hg hm r hd
/-- // of any divisor but 0 below 2 ^ 9000 -/
def CDivG (_ j : Int) : Prop := j ≠ 0 ∧ j.natAbs.log2 < 9000
theorem op_fdivG {X : Cx} : OpR X (binaryOp .FloorDiv) (rI CDivG fun i j => .int (i.fdiv j)) := opI fun i j _ _ _ _ _ hc q => floordiv_int hc.1 q (.inl (PyProof.noPylong_of_log2 hc.2))
theorem cdivG {i j : Int} {b : Nat} (h : j ≠ 0) (hb : j.natAbs < 2 ^ b) (h0 : 0 < b) (h9 : b ≤ 9000) : CDivG i j := ⟨h, Nat.lt_of_lt_of_le (PySem.Flt.log2_lt_of h0 hb) h9⟩
theorem r_int1 {H : Hp} {Q : VK} {i : Int} (h : Q (.int i) H) : (∃ j, [V.int i] = [.int j] ∧ Q (.int j) H) ∨ ∃ k, [V.int i] = [.bl k] ∧ Q (.int (if k then 1 else 0)) H := .inl ⟨i, rfl, h⟩
theorem r_intB {H : Hp} {Q : VK} {k : Bool} (h : Q (.int (if k then 1 else 0)) H) : (∃ j, [V.bl k] = [.int j] ∧ Q (.int j) H) ∨ ∃ k', [V.bl k] = [.bl k'] ∧ Q (.int (if k' then 1 else 0)) H := .inr ⟨k, rfl, h⟩
theorem r_abs {H : Hp} {Q : VK} {i : Int} (h : Q (.int (if i < 0 then -i else i)) H) : ∃ j, [V.int i] = [.int j] ∧ Q (.int (if j < 0 then -j else j)) H := ⟨i, rfl, h⟩
/-! ### one step, at the goal's head -/

theorem r_lenL {K : PySem.W.Frag} {H : Hp} {Q : VK} {p : Addr} {ys : List V} (hs : SqL K H p ys) (h : Q (.int ys.length) H) : ∃ q zs, [V.ref p] = [.ref q] ∧ (SqL K H q zs ∨ SqT K H q zs) ∧ Q (.int zs.length) H := ⟨p, ys, rfl, .inl hs, h⟩
theorem r_lenT {K : PySem.W.Frag} {H : Hp} {Q : VK} {p : Addr} {ys : List V} (hs : SqT K H p ys) (h : Q (.int ys.length) H) : ∃ q zs, [V.ref p] = [.ref q] ∧ (SqL K H q zs ∨ SqT K H q zs) ∧ Q (.int zs.length) H := ⟨p, ys, rfl, .inr hs, h⟩
theorem r_listL {K : PySem.W.Frag} {H : Hp} {Q : VK} {p : Addr} {ys : List V} (hs : SqL K H p ys) (h : ∀ l, H l = none → Q (.ref l) (upd H l (.lst ys))) : ∃ q zs, [V.ref p] = [.ref q] ∧ (SqL K H q zs ∨ SqT K H q zs) ∧ ∀ l, H l = none → Q (.ref l) (upd H l (.lst zs)) := ⟨p, ys, rfl, .inl hs, h⟩
theorem r_sfld {K : PySem.W.Frag} {ta tv : TE} {f : Str} {nx : St → Hp → Prop} {rt : VK} {bk ct : St → Hp → Prop} {σ : St} {H : Hp}
    (h : tv σ H fun y H1 => ta σ H1 fun x H2 => ∃ a C dx fs, x = .ref a ∧ H2 a = some (.ins C dx fs) ∧ Cls K C ∧ NoAttr K C f ∧ fs.length < 1000 ∧ nx σ (upd H2 a (.ins C dx (putF f y fs)))) : sFld K ta tv f ⟨nx, rt, bk, ct⟩ σ H := h
/-! ### how large an int is -/
def Bits (b : Nat) (i : Int) : Prop := i.natAbs < 2 ^ b
theorem Bits.mono {a b : Nat} {i : Int} (h : Bits a i) (l : a ≤ b) : Bits b i := Nat.lt_of_lt_of_le h (Nat.pow_le_pow_right (by decide) l)
theorem Bits.mul {a b : Nat} {i j : Int} (h : Bits a i) (g : Bits b j) : Bits (a + b) (i * j) := wide_lt h g
theorem Bits.add {a b c : Nat} {i j : Int} (h : Bits a i) (g : Bits b j) (l1 : a < c) (l2 : b < c) : Bits c (i + j) := by
  have h2 : i.natAbs < 2 ^ (c - 1) := Bits.mono (b := c - 1) h (by omega)
  have g2 : j.natAbs < 2 ^ (c - 1) := Bits.mono (b := c - 1) g (by omega)
  have e : 2 ^ c = 2 ^ (c - 1) + 2 ^ (c - 1) := by
    obtain ⟨k, rfl⟩ : ∃ k, c = k + 1 := ⟨c - 1, by omega⟩
    rw [Nat.add_sub_cancel, Nat.pow_succ]
    omega
  show (i + j).natAbs < 2 ^ c
  rw [e]
  have := Int.natAbs_add_le i j
  omega
theorem Bits.neg {a : Nat} {i : Int} (h : Bits a i) : Bits a (-i) := by
  show (-i).natAbs < _
  rw [Int.natAbs_neg]
  exact h
theorem Bits.sub {a b c : Nat} {i j : Int} (h : Bits a i) (g : Bits b j) (l1 : a < c) (l2 : b < c) : Bits c (i - j) := by
  rw [Int.sub_eq_add_neg]
  exact Bits.add h g.neg l1 l2
theorem Bits.small {i : Int} {b : Nat} (h : i.natAbs < 18446744073709551616) (l : 64 ≤ b) : Bits b i := Bits.mono (a := 64) (show i.natAbs < 2 ^ 64 from h) l
theorem Bits.mulW {a b : Nat} {i j : Int} (h : Bits a i) (g : Bits b j) (l : a + b + 2 ≤ 1000000) : CMulW i j := wide_mul (h.mono (Nat.le_succ a)) (g.mono (Nat.le_succ b)) (Nat.succ_pos _) (Nat.succ_pos _) (by omega)
theorem Bits.divG {b : Nat} {i j : Int} (h : j ≠ 0) (g : Bits b j) (l : b + 1 ≤ 9000) : CDivG i j := cdivG h (g.mono (Nat.le_succ b)) (Nat.succ_pos _) l
theorem Bits.of_le {b : Nat} {i j : Int} (h : i.natAbs ≤ j.natAbs) (g : Bits b j) : Bits b i := Nat.lt_of_le_of_lt h g
theorem ite_nt {A B : Prop} (h : B) : if (!true) = true then A else B := iteF h
theorem ite_nf {A B : Prop} (h : A) : if (!false) = true then A else B := iteT h
/-! ### the law's stream: a list of the script's copy and three ints; told as ONE thing, so that a draw leaves the abstract heap as it is -/
def okS (j k : Int) : Prop := 0 ≤ j ∧ 0 ≤ k ∧ k < 2147483648
def phiS (s l : Addr) : Heap → Prop := fun h => ∃ (i j k : Int) (t u v : Tok) (n : Nat), h.get? s = some { cls := .type "list", data := .seq #[.ref l, .int i t, .int j u, .int k v] n } ∧ okS j k
def Strm (H : Hp) (s : Addr) : Prop := ∃ (l : Addr) (ns : List Int), H s = some (.ext (phiS s l)) ∧ H l = some (.lst (ns.map V.int)) ∧ ns.length ≤ 63
theorem Strm.mono {H H' : Hp} {s : Addr} (h : Strm H s) (e : Same H H') : Strm H' s := by
  obtain ⟨l, ns, h1, h2, h3⟩ := h
  exact ⟨l, ns, e _ _ h1, e _ _ h2, h3⟩
def cellsV (l : Addr) (i j k : Int) : List V := [.ref l, .int i, .int j, .int k]
theorem Vals.cells {l : Addr} {i j k : Int} {us : List Value} (h : Vals (cellsV l i j k) us) : ∃ t u v, us = [.ref l, .int i t, .int j u, .int k v] := by
  unfold cellsV at h
  cases h with
  | cons r0 h => cases h with
    | cons r1 h => cases h with
      | cons r2 h => cases h with
        | cons r3 h =>
          cases h
          obtain ⟨t, rfl⟩ := r1
          obtain ⟨u, rfl⟩ := r2
          obtain ⟨v, rfl⟩ := r3
          cases (show _ = Value.ref l from r0)
          exact ⟨t, u, v, rfl⟩
section
variable {X : Cx} {pins : List (Addr × Obj)} {σ : St} {H : Hp} {s : Shared} {a l : Addr}
/-- the abstract heap is told otherwise at one address, the heap stays -/
theorem Inv.retell {o o' : HO} (I : Inv X pins σ H s) (ha : H a = some o) (m : Mut (some o)) (m' : Mut (some o')) (new : ObjOk X.prog X.w (upd H a o') s.heap a o') : Inv X pins σ (upd H a o') s := by
  have hx : ∀ b u, H b = some u → ¬ Mut (some u) → b ≠ a := fun b u e nm z => by
    rw [z, ha] at e
    cases e
    exact nm m
  have un : Un X.fs [] H (upd H a o') s.heap s.heap := ⟨fun _ _ e _ _ _ => e, fun b ob e _ _ _ => ⟨ob.slots, e⟩, fun b ob e n _ => by
      rw [upd_ne (show b ≠ a from fun z => by rw [z, ha] at n; cases n)]; exact n, fun b ob e _ => ⟨ob, e⟩,
    fun b xs e => by rw [upd_ne (hx b _ e fun z => z)]; exact e, fun b ob u e => by rw [upd_ne (hx b _ e fun z => z)]; exact e, fun b ps e => ⟨#[], by rw [upd_ne (hx b _ e fun z => z), e]; simp⟩⟩
  have mu : Mut (H a) := by rw [ha]; exact m
  have hk : HOk X.prog X.w (upd H a o') s.heap := by
    obtain ⟨u, hu⟩ := objOk_get (I.hok a _ ha)
    exact I.hok.write mu (.inl rfl) (fun _ _ _ e => e) ⟨u, hu⟩ new
  exact I.un (h' := s.heap) (t' := s.toks) un hk
theorem phi_open {h : Heap} (P : Program) (w : World) (H : Hp) (x : ObjOk P w H h a (.ext (phiS a l))) : ∃ i j k : Int, okS j k ∧ ObjOk P w (upd H a (.lst (cellsV l i j k))) h a (.lst (cellsV l i j k)) := by
  obtain ⟨⟨i, j, k, t, u, v, n, e, hj⟩, _⟩ := x
  exact ⟨i, j, k, hj, (by show 4 ≤ sizeLine; decide), _, n, .cons rfl (.cons ⟨t, rfl⟩ (.cons ⟨u, rfl⟩ (.cons ⟨v, rfl⟩ .nil))), e⟩
theorem phi_close {h : Heap} {P : Program} {w : World} {H H' : Hp} {i j k : Int} (x : ObjOk P w H h a (.lst (cellsV l i j k))) (hj : okS j k) : ObjOk P w H' h a (.ext (phiS a l)) := by
  obtain ⟨_, its, n, r, e⟩ := x
  obtain ⟨t, u, v, rfl⟩ := Vals.cells r
  refine ⟨⟨i, j, k, t, u, v, n, e, hj⟩, ⟨_, e⟩, fun h1 h2 ⟨i, j, k, t, u, v, n, e, hj⟩ st => ⟨i, j, k, t, u, v, n, st _ e, hj⟩⟩
/-- within: the stream's four cells are told; behind: one thing again -/
def shutS (a l : Addr) (N : St → Hp → Prop) : St → Hp → Prop := fun σ H => ∃ i j k : Int, H a = some (.lst (cellsV l i j k)) ∧ okS j k ∧ N σ (upd H a (.ext (phiS a l)))
def shutV (a l : Addr) (N : VK) : VK := fun v H => ∃ i j k : Int, H a = some (.lst (cellsV l i j k)) ∧ okS j k ∧ N v (upd H a (.ext (phiS a l)))
def tOpen (a l : Addr) (t : TS) : TS := fun D σ H => H a = some (.ext (phiS a l)) ∧ ∀ i j k : Int, okS j k → t ⟨shutS a l D.nx, shutV a l D.rt, shutS a l D.bk, shutS a l D.ct⟩ σ (upd H a (.lst (cellsV l i j k)))
theorem Inv.shut {i j k : Int} (I : Inv X pins σ H s) (ha : H a = some (.lst (cellsV l i j k))) (hj : okS j k) : Inv X pins σ (upd H a (.ext (phiS a l))) s :=
  Inv.retell I ha trivial trivial (phi_close (I.hok a _ ha) hj)
theorem r_open {t : TS} {nx : St → Hp → Prop} {rt : VK} {bk ct : St → Hp → Prop} (h : H a = some (.ext (phiS a l))) (k : ∀ i j k : Int, okS j k → t ⟨shutS a l nx, shutV a l rt, shutS a l bk, shutS a l ct⟩ σ (upd H a (.lst (cellsV l i j k)))) : tOpen a l t ⟨nx, rt, bk, ct⟩ σ H := ⟨h, k⟩
theorem pss_open {body : List Stmt} {t : TS} (a l : Addr) (h : PSs X body t) : PSs X body (tOpen a l t) := by
  refine ⟨fun pins s σ H D I q => ?_⟩
  obtain ⟨ha, q⟩ := q
  obtain ⟨i, j, k, hj, ok⟩ := phi_open (a := a) (l := l) X.prog X.w H (I.hok a _ ha)
  refine thn (h.run pins s σ _ _ (Inv.retell (o' := .lst (cellsV l i j k)) I ha trivial trivial ok) (q i j k hj)) fun f s1 z => ?_
  cases f with
  | next =>
    obtain ⟨σ', H', I', i, j, k, e, hj, n⟩ := z
    exact ⟨σ', _, Inv.shut I' e hj, n⟩
  | brk =>
    obtain ⟨σ', H', I', i, j, k, e, hj, n⟩ := z
    exact ⟨σ', _, Inv.shut I' e hj, n⟩
  | cont =>
    obtain ⟨σ', H', I', i, j, k, e, hj, n⟩ := z
    exact ⟨σ', _, Inv.shut I' e hj, n⟩
  | ret u =>
    obtain ⟨v, σ', H', I', r, i, j, k, e, hj, n⟩ := z
    exact ⟨v, σ', _, Inv.shut I' e hj, r, n⟩
/-- a list of four is told as a stream where it is handed back -/
def tShut (t : TS) : TS := fun D σ H => t ⟨D.nx, fun v H' => ∃ (a l : Addr) (i j k : Int), v = .ref a ∧ H' a = some (.lst (cellsV l i j k)) ∧ okS j k ∧ D.rt v (upd H' a (.ext (phiS a l))), D.bk, D.ct⟩ σ H
theorem r_shut {t : TS} {nx : St → Hp → Prop} {rt : VK} {bk ct : St → Hp → Prop} (h : t ⟨nx, fun v H' => ∃ (a l : Addr) (i j k : Int), v = .ref a ∧ H' a = some (.lst (cellsV l i j k)) ∧ okS j k ∧ rt v (upd H' a (.ext (phiS a l))), bk, ct⟩ σ H) : tShut t ⟨nx, rt, bk, ct⟩ σ H := h
theorem pss_shut {body : List Stmt} {t : TS} (h : PSs X body t) : PSs X body (tShut t) := by
  refine ⟨fun pins s σ H D I q => ?_⟩
  refine thn (h.run pins s σ _ _ I q) fun f s1 z => ?_
  cases f with
  | ret u =>
    obtain ⟨v, σ', H', I', r, a, l, i, j, k, rfl, e, hj, n⟩ := z
    exact ⟨_, σ', _, Inv.shut I' e hj, r, n⟩
  | next => exact z
  | brk => exact z
  | cont => exact z
end
/-- what the stream leaves behind is the heap ahead -/
theorem upd_back {H : Hp} {a : Addr} {o o' : HO} (h : H a = some o') : upd (upd H a o) a o' = H := by
  funext b
  by_cases e : b = a
  · rw [e, upd_same, h]
  · rw [upd_ne e, upd_ne e]
theorem upd_back2 {H : Hp} {a : Addr} {o o1 o' : HO} (h : H a = some o') : upd (upd (upd H a o) a o1) a o' = H := by
  rw [upd_upd, upd_back h]
theorem upd_back3 {H : Hp} {a : Addr} {o o1 o2 o' : HO} (h : H a = some o') : upd (upd (upd (upd H a o) a o1) a o2) a o' = H := by
  rw [upd_upd, upd_upd, upd_back h]
/-! ### C(..) where what its __init__ raises is wished for at the slots -/
section
variable {X : Cx} {CX : CXT} {k : Nat} {f C : Addr} {fd : FuncData} {ps : List Str} {sp : Sp} {dvs : List V} {ds : List Value} {E : St → XK} {x : Str} {p pos : Pos} {e : Expr} {es : List Expr} {t : TA}
def tMakeS (C : Addr) (sp : Sp) (dvs : List V) (E : St → XK) (t : TA) : TE := fun σ H Q => t σ H fun vs H1 => ∀ x dx, H1 x = none → H1 dx = none → dx ≠ x →
  sp (.ref x :: (vs ++ dvs)) (upd (upd H1 dx (.own x)) x (.ins C dx [])) (fun v H2 => v = .non ∧ Q (.ref x) H2) (E σ)
theorem make_atS {pins : List (Addr × Obj)} {σ : St} {H : Hp} {s : Shared} {Q : VK} {us : List Value} {vs : List V} (mk : Mk X.K C f) (ok : FnOk X.prog X.w X.K X.mg X.base CX k f fd ps sp) (room : Room (k + 1) X.A) (bd : Binds X.K fd ps ds) (dv : Vals dvs ds)
    (pass : PassesAt CX X σ (E σ)) (I : Inv X pins σ H s) (rel : Vals vs us)
    (ask : ∀ x dx, H x = none → H dx = none → dx ≠ x → sp (.ref x :: (vs ++ dvs)) (upd (upd H dx (.own x)) x (.ins C dx [])) (fun v H2 => v = .non ∧ Q (.ref x) H2) (E σ)) :
    wpAny (model X.prog X.w) X.A (call (.ref C) us) (EP X pins σ Q) X.xe s := by
  let n := s.heap.objs.size
  have want := ask (n + 1) n (I.hok.fresh (Nat.le_succ _)) (I.hok.fresh (Nat.le_refl _)) (by show n ≠ n + 1; omega)
  have J := Inv.made (C := C) I
  have relS : Vals (V.ref (n + 1) :: (vs ++ dvs)) (Value.ref (n + 1) :: (us ++ ds)) := .cons rfl (rel.append dv)
  have many : (Value.ref (n + 1) :: us ++ ds).length = ps.length := relS.length.symm.trans (ok.len _ _ _ _ want)
  have go := ok.run _ X.stack _ _ ⟨Value.ref (n + 1) :: us, []⟩ (Value.ref (n + 1) :: (us ++ ds)) _ _ (E σ) (room.make C us []) (J.env0.make C us []) (bd _ (Value.ref (n + 1) :: us) J.kIn many) relS want
  refine wpAny_call (make_map (f := f) I.kIn mk.makes mk.init (beq_iff_eq.mp mk.fn) (codeAny_mono go fun out s' end_ => ?_))
  match out, end_ with
  | .error e, end_ => exact pass pins _ _ e s' J end_
  | .ok (.ret u), end_ =>
    obtain ⟨v, H', I3, rv, ev, q3⟩ := J.after end_
    cases ev
    exact ⟨rv, V.ref (n + 1), H', I3, rfl, q3⟩
  | .ok .next, end_ => exact end_.elim
  | .ok .brk, end_ => exact end_.elim
  | .ok .cont, end_ => exact end_.elim
theorem pe_makeS (mk : Mk X.K C f) (ok : FnOk X.prog X.w X.K X.mg X.base CX k f fd ps sp) (room : Room (k + 1) X.A) (gl : Gl X x) (gm : X.mg x = some (.ref C)) (bd : Binds X.K fd ps ds) (dv : Vals dvs ds) (pass : ∀ σ, PassesAt CX X σ (E σ))
    (args : PA X (e :: es) t) (d1 : (x == ("__debug__" : Str)) = false := by decide) (d2 : starEach (e :: es) X.env = (false, eval e X.env) :: starEach es X.env := by rfl) (d3 : (backTo pos (starEach es X.env)).any (·.1) = false := by rfl) :
    PE X (.Call (.Name x p) (e :: es) [] pos) (tMakeS C sp dvs E t) :=
  ⟨fun pins s σ H Q I h => wpAny_Call_Name_kw (ld_glob I gl gm (PySem.W.callWith_K (h₀ := X.base) I.ok.mod.kin mk.kp (thn (args.run pos pins s σ H _ I h) fun us s1 ⟨vs, H1, I1, r, q⟩ => ⟨I1.kIn, make_atS mk ok room bd dv (pass σ) I1 r q⟩) d2 d3) d1)⟩
theorem passX {E : XK} (tk : Takes X (fun cls d _ H => E cls d H)) : Passes (L2.CX X.prog X.w) X E := fun pins σ H s e s' I c => passes_call tk (fun _ _ _ _ z => z) pins σ H s e s' I c
end
section
variable {σ : St} {H : Hp} {Q : VK} {C : Addr} {sp : Sp} {dvs : List V} {t : TA}
theorem r_make {E : XK} (h : t σ H fun vs H1 => ∀ x dx, H1 x = none → H1 dx = none → dx ≠ x → sp (.ref x :: (vs ++ dvs)) (upd (upd H1 dx (.own x)) x (.ins C dx [])) (fun v H2 => v = .non ∧ Q (.ref x) H2) E) : tMake C sp dvs E t σ H Q := h
theorem r_makeS {E : St → XK} (h : t σ H fun vs H1 => ∀ x dx, H1 x = none → H1 dx = none → dx ≠ x → sp (.ref x :: (vs ++ dvs)) (upd (upd H1 dx (.own x)) x (.ins C dx [])) (fun v H2 => v = .non ∧ Q (.ref x) H2) (E σ)) : tMakeS C sp dvs E t σ H Q := h
end
/-! ### loops -/
def forR (J : It) (g : TG) (tb : TS) (D : Ends) (σ : St) (H : Hp) : Prop := ∃ W : Nat → Nat → St → Hp → Prop, (∃ m, W 0 m σ H) ∧ ∀ i m σ H, W i m σ H →
  (J.stop i H ∧ D.nx σ H) ∨ (J.go i H ∧ ∃ N : St → Hp → Prop, (∀ σ' H', N σ' H' → ∃ m', m' < m ∧ W (i + 1) m' σ' H') ∧ ∀ x H', J.yld i H x H' → g x σ H' fun σ2 H2 => tb { D with nx := N, ct := N, bk := D.nx } σ2 H2)
section
variable {σ : St} {H : Hp} {wi : TI} {g : TG} {tb : TS} {nx : St → Hp → Prop} {rt : VK} {bk ct : St → Hp → Prop} {ta : TA} {tl : TE} {K : PySem.W.Frag} {a : Addr} {xs : List V} {k : Nat} {c : TT}
theorem r_for (h : wi σ H fun J H1 => forR J g tb ⟨nx, rt, bk, ct⟩ σ H1) : tFor wi g tb ⟨nx, rt, bk, ct⟩ σ H := h
theorem r_iRng1 {R : It → Hp → Prop} (h : ta σ H fun vs H1 => ∃ j : Int, vs = [.int j] ∧ -(2 ^ 62) ≤ j ∧ j < 2 ^ 62 ∧ R (Itr 0 j.toNat) H1) : iRng1 ta σ H R := h
theorem r_iList {R : It → Hp → Prop} (h : tl σ H fun x H1 => ∃ a, x = .ref a ∧ (∃ xs, SqL K H1 a xs) ∧ R (Itl K a) H1) : iList K tl σ H R := h
theorem r_rng1 {i : Int} {P : It → Prop} (h1 : -(2 ^ 62) ≤ i) (h2 : i < 2 ^ 62) (h : P (Itr 0 i.toNat)) : ∃ j : Int, [V.int i] = [.int j] ∧ -(2 ^ 62) ≤ j ∧ j < 2 ^ 62 ∧ P (Itr 0 j.toNat) := ⟨i, rfl, h1, h2, h⟩
theorem r_lstI {P : It → Prop} (hs : SqL K H a xs) (h : P (Itl K a)) : ∃ b, V.ref a = .ref b ∧ (∃ xs, SqL K H b xs) ∧ P (Itl K b) := ⟨a, rfl, ⟨xs, hs⟩, h⟩
theorem for_rng {lo : Int} {n : Nat} (Pv : Nat → St → Hp → Prop) (h0 : Pv 0 σ H) (hs : ∀ i σ H, i < n → Pv i σ H → tb ⟨Pv (i + 1), rt, nx, Pv (i + 1)⟩ (σ.set k (some (.int (lo + (i : Int))))) H) (hd : ∀ σ H, Pv n σ H → nx σ H) :
    forR (Itr lo n) (gName k) tb ⟨nx, rt, bk, ct⟩ σ H := for_range (D := ⟨nx, rt, bk, ct⟩) Pv h0 hs hd
theorem for_lst (Pv : Nat → St → Hp → Prop) (h0 : Pv 0 σ H) (hl : ∀ i σ H, i ≤ xs.length → Pv i σ H → SqL K H a xs) (hs : ∀ i x σ H, xs[i]? = some x → Pv i σ H → tb ⟨Pv (i + 1), rt, nx, Pv (i + 1)⟩ (σ.set k (some x)) H) (hd : ∀ σ H, Pv xs.length σ H → nx σ H) :
    forR (Itl K a) (gName k) tb ⟨nx, rt, bk, ct⟩ σ H := for_list (D := ⟨nx, rt, bk, ct⟩) Pv h0 hl hs hd
/-- a while by a word with a measure; behind the test: ⟨_, fun _ _ n => n, ..⟩ -/
theorem r_while (W : Nat → St → Hp → Prop) (m0 : Nat) (h0 : W m0 σ H) (hs : ∀ m σ H, W m σ H → c σ H fun b H1 => if b = true then ∃ N : St → Hp → Prop, (∀ σ' H', N σ' H' → ∃ m', m' < m ∧ W m' σ' H') ∧ tb ⟨N, rt, nx, N⟩ σ H1 else nx σ H1) :
    tWhile c tb ⟨nx, rt, bk, ct⟩ σ H := ⟨W, ⟨m0, h0⟩, hs⟩
theorem r_cut {t u : TS} (Mid : St → Hp → Prop) (h1 : t ⟨Mid, rt, bk, ct⟩ σ H) (h2 : ∀ σ H, Mid σ H → u ⟨nx, rt, bk, ct⟩ σ H) : C8.tCut t u ⟨nx, rt, bk, ct⟩ σ H := ⟨Mid, h1, h2⟩
end
theorem same_new {H : Hp} {p : Addr} {o : HO} (h : H p = none) : Same H (upd H p o) := fun b u e => by rw [upd_ne (ne_of_none e h)]; exact e
theorem same_mk {H : Hp} {x dx : Addr} {o u : HO} (h1 : H x = none) (h2 : H dx = none) : Same H (upd (upd H dx o) x u) := fun b v e => by
  rw [upd_ne (ne_of_none e h1), upd_ne (ne_of_none e h2)]
  exact e
/-! ### facts of the top that the head tells as Bools -/
def excCB (K : PySem.W.Frag) (D : Addr) : Bool := [He.eqO (PySem.W.findIn K (.ref D) "__getattribute__") (some (some (.builtin "BaseException.__getattribute__"))), He.eqO (PySem.W.findIn K (.ref D) "__getattr__") (some none), decide (PySem.W.subIn K (.ref D) (.type "BaseException") = some true),
  PySem.W.hasDictIn K D, He.eqO (PySem.W.findIn K (.ref D) "__class__") (some (some (.builtin "object.__class__"))), He.eqO (PySem.W.specialIn K (.builtin "object.__class__") "__get__") (some (some (.builtin "getset_descriptor.__get__"))),
  decide (PySem.W.takesIn K (.builtin "object.__class__") = some true), decide (PySem.W.mroIn K D (.type "object") = some true)].all id
theorem all8 {b1 b2 b3 b4 b5 b6 b7 b8 : Bool} (h : [b1, b2, b3, b4, b5, b6, b7, b8].all id = true) : b1 = true ∧ b2 = true ∧ b3 = true ∧ b4 = true ∧ b5 = true ∧ b6 = true ∧ b7 = true ∧ b8 = true := by
  simpa using h
theorem excCB_ok {K : PySem.W.Frag} {D : Addr} (h : excCB K D = true) : ExcC K D := by
  obtain ⟨h1, h2, h3, h4, h5, h6, h7, h8⟩ := all8 h
  exact ⟨He.eqO_ok h1, He.eqO_ok h2, of_decide_eq_true h3, h4, He.eqO_ok h5, He.eqO_ok h6, of_decide_eq_true h7, of_decide_eq_true h8⟩
def isiCB (K : PySem.W.Frag) (D : Addr) : Bool := [He.eqO (PySem.W.findIn K (.ref D) "__class__") (some (some (.builtin "object.__class__"))), He.eqO (PySem.W.specialIn K (.builtin "object.__class__") "__get__") (some (some (.builtin "getset_descriptor.__get__"))),
  decide (PySem.W.takesIn K (.builtin "object.__class__") = some true), decide (PySem.W.mroIn K D (.type "object") = some true), true, true, true, true].all id
theorem isi_ins {K : PySem.W.Frag} {H : Hp} {a D dx : Addr} {fs : List (Str × V)} (h : isiCB K D = true) (c : Cls K D) (e : H a = some (.ins D dx fs)) : TyX K H (.ref a) (.ref D) := by
  obtain ⟨h1, h2, h3, h4, _⟩ := all8 h
  exact .base (.ins e c (He.eqO_ok h1) (He.eqO_ok h2) (of_decide_eq_true h3) (of_decide_eq_true h4))
theorem pss_given {X : Cx} {body : List Stmt} {t : TS} {P : Prop} (h : P → PSs X body t) : PSs X body (fun D σ H => P ∧ t D σ H) := ⟨fun pins s σ H D I q => (h q.1).run pins s σ H D I q.2⟩
theorem r_isi {K : PySem.W.Frag} {H : Hp} {Q : VK} {x c : V} {t u : Value} {b : Bool} (hx : TyX K H x t) (hc : ClsV c u) (e : PySem.W.kitOne K t u = some b) (h : Q (.bl b) H) : rIsi K [x, c] H Q := ⟨x, c, t, u, b, rfl, hc, hx, e, h⟩
/-! ### operators that a class of the program's own defines -/
section
variable {X : Cx} {CX : CXT} {n : Nat} {C g : Addr} {fd : FuncData} {ps : List Str} {sp : Sp} {E : XK}
def rBin (C : Addr) (sp : Sp) (E : XK) : R2 := fun x y H Q => ∃ a b dx dy fs gs, x = .ref a ∧ y = .ref b ∧ H a = some (.ins C dx fs) ∧ H b = some (.ins C dy gs) ∧ sp [.ref a, .ref b] H Q E
theorem back_of {R : Value → Shared → Prop} {z : V} {v : Value} {s' : Shared} (r : RelV z v) (h : R v s') : PySem.W.CmpBack R v s' := by
  cases z with
  | non => cases (show v = Value.none from r); exact h
  | bl b => cases (show v = Value.bool b from r); exact h
  | int i => obtain ⟨t, rfl⟩ := (show ∃ t, v = Value.int i t from r); exact h
  | str i => obtain ⟨t, rfl⟩ := (show ∃ t, v = Value.str i t from r); exact h
  | byt i => obtain ⟨t, rfl⟩ := (show ∃ t, v = Value.bytes i t from r); exact h
  | flt i => obtain ⟨t, rfl⟩ := (show ∃ t, v = Value.float i t from r); exact h
  | ref i => cases (show v = Value.ref i from r); exact h
  | ty i => cases (show v = Value.type i from r); exact h
theorem ins_inst {pins : List (Addr × Obj)} {σ : St} {H : Hp} {s : Shared} {a dx : Addr} {fs : List (Str × V)} (I : Inv X pins σ H s) (h : H a = some (.ins C dx fs)) : ∃ od, PySem.W.InstAt s.heap a (PySem.W.instObj C dx) C (some od) := by
  obtain ⟨mA, J, _⟩ := ins_get I.hok h
  obtain ⟨od, J, _⟩ := J.look
  exact ⟨od, J⟩
theorem op_bin {op : Operator} (first : PySem.W.selfFirst X.K C = true) (m : Meth X.K C (PySem.dunder op.info.2) g) (F : FnOk X.prog X.w X.K X.mg X.base CX n g fd ps sp) (bd : Binds X.K fd ps []) (room : Room n X.A) (pass : Passes CX X E) : OpR X (binaryOp op) (rBin C sp E) := by
  intro pins s σ H x y v u Q I rx ry h
  obtain ⟨a, b, dx, dy, fs, gs, rfl, rfl, ha, hb, q⟩ := h
  cases (show v = Value.ref a from rx)
  cases (show u = Value.ref b from ry)
  obtain ⟨od, J⟩ := ins_inst I ha
  obtain ⟨od', J'⟩ := ins_inst I hb
  obtain ⟨mF, hF⟩ := I.fr
  refine PySem.W.binop_K hF I.ok.mod.kin J J'.type first m.at_ m.fn ?_
  refine wpAny_mono (run_fn (vs := [.ref a, .ref b]) (us := [.ref a, .ref b]) F room bd .nil pass I (.cons rfl (.cons rfl .nil)) (by rw [List.append_nil]; exact q)) (fun w s' z => ?_) fun _ _ e => e
  obtain ⟨z', H', I', rz, qz⟩ := z
  exact back_of rz ⟨z', H', I', rz, qz⟩
def rUnO (C : Addr) (sp : Sp) (E : XK) : V → Hp → VK → Prop := fun x H Q => ∃ a dx fs, x = .ref a ∧ H a = some (.ins C dx fs) ∧ sp [.ref a] H Q E
theorem un_negO (m : Meth X.K C "__neg__" g) (F : FnOk X.prog X.w X.K X.mg X.base CX n g fd ps sp) (bd : Binds X.K fd ps []) (room : Room n X.A) (pass : Passes CX X E) : UnR X (unaryOp .USub) (rUnO C sp E) := by
  intro pins s σ H x v Q I rx h
  obtain ⟨a, dx, fs, rfl, ha, q⟩ := h
  cases (show v = Value.ref a from rx)
  obtain ⟨od, J⟩ := ins_inst I ha
  obtain ⟨mF, hF⟩ := I.fr
  exact PySem.W.ksp_neg hF I.ok.mod.kin J m.at_ m.fn (run_fn (vs := [.ref a]) (us := [.ref a]) F room bd .nil pass I (.cons rfl .nil) (by rw [List.append_nil]; exact q))
/-- == by an own __eq__, both answers -/
theorem op_eqO (m : Meth X.K C "__eq__" g) (F : FnOk X.prog X.w X.K X.mg X.base CX n g fd ps sp) (bd : Binds X.K fd ps []) (room : Room n X.A) (pass : Passes CX X E) : OpR X (compareOp .Eq) (rBin C sp E) := by
  intro pins s σ H x y v u Q I rx ry h
  obtain ⟨a, b, dx, dy, fs, gs, rfl, rfl, ha, hb, q⟩ := h
  cases (show v = Value.ref a from rx)
  cases (show u = Value.ref b from ry)
  obtain ⟨od, J⟩ := ins_inst I ha
  obtain ⟨od', J'⟩ := ins_inst I hb
  obtain ⟨mF, hF⟩ := I.fr
  show wpAny (model X.prog X.w) X.A (richCompare .Eq (.ref a) (.ref b)) (EP X pins σ Q) X.xe s
  refine PySem.W.cmp_K (op := .Eq) (tb := .ref C) room.units0 hF I.ok.mod.kin J J'.type (by simp [PySem.W.notFirst]) m.at_ m.fn ?_
  refine wpAny_mono (run_fn (vs := [.ref a, .ref b]) (us := [.ref a, .ref b]) F room bd .nil pass I (.cons rfl (.cons rfl .nil)) (by rw [List.append_nil]; exact q)) (fun w s' z => ?_) fun _ _ e => e
  obtain ⟨z', H', I', rz, qz⟩ := z
  exact back_of rz ⟨z', H', I', rz, qz⟩
end
/-! ### the rules with the written part by its letter -/
section
variable {X : Cx} {K : PySem.W.Frag} {e o : Expr} {f : Str} {pos pos' : Pos} {ta tv : TE} {value : Expr} {tg : Expr} {tl : TE}
theorem ix_listK (h : X.K = K) : IxR X (rIxL K) := by subst h; exact ix_list
theorem ix_tupK (h : X.K = K) : IxR X (rIxT K) := by subst h; exact ix_tup
theorem call_isiK' (h : X.K = K) : CallR X (.builtin "isinstance") (rIsi K) := by subst h; exact call_isi
theorem call_lenK (h : X.K = K) : CallR X (.builtin "len") (fun xs H Q => ∃ p ys, xs = [.ref p] ∧ (SqL K H p ys ∨ SqT K H p ys) ∧ Q (.int ys.length) H) := by subst h; exact call_len_seq
theorem call_listK (h : X.K = K) : CallR X (.type "list") (fun xs H Q => ∃ p ys, xs = [.ref p] ∧ (SqL K H p ys ∨ SqT K H p ys) ∧ ∀ l, H l = none → Q (.ref l) (upd H l (.lst ys))) := by subst h; exact call_list_of
theorem pe_fldK (h : X.K = K) (he : PE X e ta) (hb : attributeBase e f X.env (eval e X.env) = eval e X.env) : PE X (.Attribute e f pos) (tFld K ta f) := by subst h; exact pe_fld he hb
theorem ps_fldK (h : X.K = K) (ha : PE X o ta) (hv : PE X value tv) (hs : swapsWith value (some (.Attribute o f pos')) pos.line X.env = pure false) : PS X (.Assign [.Attribute o f pos'] value pos) (sFld K ta tv f) := by subst h; exact ps_fld ha hv hs
theorem pi_listK (h : X.K = K) (hl : PE X e tl) : PI X tg e (iList K tl) := by subst h; exact pi_list hl
theorem pi_tupK (h : X.K = K) (hl : PE X e tl) : PI X tg e (iTup K tl) := by subst h; exact pi_tup hl
theorem op_eqDK (h : X.K = K) (hu : X.A.units + 64 < cLine) : OpR X (compareOp .Eq) (rEqD K) := by subst h; exact op_eqD hu
theorem op_neDK (h : X.K = K) (hu : X.A.units + 64 < cLine) : OpR X (compareOp .NotEq) (rNeD K) := by subst h; exact op_neD hu
theorem op_inK (h : X.K = K) : OpR X (compareOp .In) (rIn K false) := by subst h; exact op_in_seq
theorem op_notInK (h : X.K = K) : OpR X (compareOp .NotIn) (rIn K true) := by subst h; exact op_notIn_seq
end
/-! ### a tuple of texts that the module holds -/
def strOf : Value → Option Str
  | .str x _ => some x
  | _ => none
def tupStrs (K : PySem.W.Frag) (a : Addr) (xs : List Str) : Bool := match K.lookup a with
  | some ⟨.type "tuple", _, .seq its _, _⟩ => decide (its.toList.map strOf = xs.map some)
  | _ => false
theorem vals_strs : ∀ (us : List Value) (xs : List Str), us.map strOf = xs.map some → Vals (xs.map V.str) us
  | [], [], _ => .nil
  | [], _ :: _, h => by cases h
  | _ :: _, [], h => by cases h
  | u :: us, x :: xs, h => by
    have h1 := (List.cons.inj h).1
    have h2 := (List.cons.inj h).2
    refine .cons ?_ (vals_strs us xs h2)
    cases u with
    | str y t => exact ⟨t, by rw [Option.some.inj h1]⟩
    | _ => cases h1
theorem tupStrs_ok {K : PySem.W.Frag} {H : Hp} {a : Addr} {xs : List Str} (h : tupStrs K a xs = true) (hl : xs.length ≤ 1000) : SqT K H a (xs.map V.str) := by
  unfold tupStrs at h
  split at h
  · rename_i od its n sl hk
    have e := of_decide_eq_true h
    have l := congrArg List.length e
    rw [List.length_map, List.length_map, Array.length_toList] at l
    exact .inr ⟨_, its, n, hk, rfl, rfl, by rw [l, sizeLine_eq]; omega, vals_strs _ _ e⟩
  · cases h
/-! ### an own exception whose __init__ calls its base's with a text, and keeps one field -/
def lwB (K : PySem.W.Frag) (L : Addr) : Bool := He.eqO (PySem.W.specialIn K (.ref L) "__getattribute__") (some (some (.builtin "type.__getattribute__"))) && (PySem.W.readsIn K L (.type "type") &&
  (match PySem.W.findCls K (.ref L) (.type "type") "__init__" with | some (.val v) => decide (v = .builtin "ValueError.__init__") | _ => false))
theorem lwB_ok {K : PySem.W.Frag} {L : Addr} (h : lwB K L = true) : PySem.W.specialIn K (.ref L) "__getattribute__" = some (some (.builtin "type.__getattribute__")) ∧ PySem.W.readsIn K L (.type "type") = true ∧
    PySem.W.findCls K (.ref L) (.type "type") "__init__" = some (.val (.builtin "ValueError.__init__")) := by
  unfold lwB at h
  obtain ⟨h1, h⟩ := Bool.and_eq_true_iff.mp h
  obtain ⟨h2, h3⟩ := Bool.and_eq_true_iff.mp h
  refine ⟨He.eqO_ok h1, h2, ?_⟩
  split at h3
  · rename_i v e
    rw [e, of_decide_eq_true h3]
  · cases h3
def oexB (K : PySem.W.Frag) (C fI : Addr) : Bool := [(match K.lookup C with
    | some ⟨.type "type", _, .cls cd, sl⟩ => (match cd.mro, sl.toList with
      | .ref D :: bm, [_, _, _, _, some (.builtin n), _] => [decide (D = C), decide (n = "ValueError.__new__"), !cd.hasDel, cd.hasDict, PySem.HandSPX.refsVE bm].all id
      | _, _ => false)
    | _ => false),
  He.eqO (PySem.W.findIn K (.ref C) "__setattr__") (some (some (.builtin "object.__setattr__"))), decide (PySem.W.subIn K (.ref C) (.type "BaseException") = some true), decide (PySem.W.typeIn K (.ref C) = some (.type "type")), PySem.W.keepIn K (.ref C),
  He.eqO (PySem.W.findIn K (.ref C) "__init__") (some (some (.ref fI))), decide (PySem.W.typeIn K (.ref fI) = some (.type "function")), true].all id
theorem oexB_ok {K : PySem.W.Frag} {C fI : Addr} (h : oexB K C fI = true) : OexC K C ∧ PySem.W.findIn K (.ref C) "__init__" = some (some (.ref fI)) ∧ PySem.W.typeIn K (.ref fI) = some (.type "function") := by
  obtain ⟨h1, h2, h3, h4, h5, h6, h7, _⟩ := all8 h
  refine ⟨⟨?_, He.eqO_ok h2, of_decide_eq_true h3, of_decide_eq_true h4, h5⟩, He.eqO_ok h6, of_decide_eq_true h7⟩
  split at h1
  · rename_i dd cd sl ho
    split at h1
    · rename_i D bm k0 k1 k2 k3 n k5 hm hs
      simp only [List.all_cons, List.all_nil, id_eq, Bool.and_true, Bool.and_eq_true, decide_eq_true_eq, Bool.not_eq_true'] at h1
      obtain ⟨rfl, rfl, hdel, hdct, hv⟩ := h1
      obtain ⟨nm, bs, mro, ns, qn, hd, sn, sub, ab, col, del⟩ := cd
      dsimp only at hm hdel hdct
      subst hm hdel hdct
      have hsl : sl = #[k0, k1, k2, k3, some (.builtin "ValueError.__new__"), k5] := by
        obtain ⟨l⟩ := sl
        simp only at hs
        rw [hs]
      subst hsl
      exact ⟨nm, qn, ns, bs, bm, sn, sub, ab, col, dd, k0, k1, k2, k3, k5, ho, hv⟩
    · cases h1
  · cases h1
section
variable {X : Cx} {e : Expr} {es : List Expr} {ta : TA} {x : Str} {L : Addr} {p1 p2 pos : Pos}
theorem pe_lwinit {pl : Sem Bool} (hB : lwB X.K L = true) (hg : Gl X x) (hm : X.mg x = some (.ref L)) (ha : PA X (e :: es) ta) (hdb : (x == ("__debug__" : Str)) = false := by decide)
    (hc : eval (.Call (.Attribute (.Name x p1) "__init__" p2) (e :: es) [] pos) X.env = (do
      let ov ← eval (.Name x p1) X.env
      standAt p2.atName
      let (f, first) ← holding [ov] (getMethod ov "__init__" pl)
      callWith pos f first (backTo pos (starEach (e :: es) X.env)) (backToKw pos (keywordEach [] X.env))) := by rfl)
    (he : starEach (e :: es) X.env = (false, eval e X.env) :: starEach es X.env := by rfl) (hpl : (backTo pos (starEach es X.env)).any (·.1) = false := by rfl) :
    PE X (.Call (.Attribute (.Name x p1) "__init__" p2) (e :: es) [] pos) (tVeI X.K ta) := by
  refine ⟨fun pins s σ H Q I h => ?_⟩
  obtain ⟨b1, b2, b3⟩ := lwB_ok hB
  refine PySem.W.methodCall_KW (ld_glob I hg hm ?_ hdb) hc
  obtain ⟨m, fr⟩ := I.fr
  refine PySem.W.method_of_cls fr I.ok.mod.kin b1 (PySem.W.cls_value (I.ok.mod.kin.keeps fr.keep) b2 b3 (by decide +kernel) ?_)
  show wpAny _ _ (callWith pos (Value.builtin "ValueError.__init__") [] (backTo pos (starEach (e :: es) X.env)) []) _ _ _
  refine PyProof.Rows.callWith_method1 (thn (ha.run pos pins _ σ H _ (I.tok _) h) fun us s1 hu => ?_) he hpl
  obtain ⟨vs, H1, I1, r1, a, C, ws, ev, hl, T, ea, q⟩ := hu
  subst ev
  cases r1 with
  | @cons _ u0 _ ur ra rw' =>
    obtain rfl : u0 = Value.ref a := ra
    exact oinit_ok T I1 ea (by rw [← Paired.length rw', sizeLine_eq]; omega) fun s' J => ⟨.non, H1, J, rfl, q⟩
end
/-- C(i) leaves behind: the class, and its dict with the one field -/
theorem upd_raise {H : Hp} {a d dx : Addr} {o1 o2 o3 o4 : HO} (ha : H a = none) (hd : H d = none) (ne : dx ≠ a) (e : d = dx) : upd (del (upd (upd (upd H a o1) dx o2) a o3) a) d o4 = upd H d o4 := by
  subst e
  funext b
  by_cases h1 : b = d
  · rw [h1, upd_same, upd_same]
  · rw [upd_ne h1, upd_ne h1]
    by_cases h2 : b = a
    · rw [h2, del_same, ha]
    · rw [del_ne h2, upd_ne h2, upd_ne h1, upd_ne h2]
def spExc (K : PySem.W.Frag) (C : Addr) (f : Str) (ok : V → Prop) : Sp := fun vs H Q _ => ∃ (a : Addr) (v : V), vs = [.ref a, v] ∧ H a = some (exo a C none) ∧ ok v ∧ ∀ dx, H dx = none → dx ≠ a → Q .non (upd (upd H dx (exd dx [(f, v)])) a (exo a C (some dx)))
theorem exd_inj {d e : Addr} {fs gs : List (Str × V)} (h : exd d fs = exd d gs) : True := trivial
/-- raise C(v), C's __init__ keeping spExc -/
theorem r_raiseE {K : PySem.W.Frag} {C : Addr} {f : Str} {ok : V → Prop} {t : TA} {σ : St} {H : Hp} {Q : XK}
    (h : t σ H fun vs H1 => ∃ v, vs = [v] ∧ ok v ∧ ∀ d, H1 d = none → Q (.ref C) (some d) (upd H1 d (.xd [(f, v)]))) (mono : ∀ P P' : List V → Hp → Prop, (∀ vs H1, P vs H1 → P' vs H1) → t σ H P → t σ H P') : tMkO C (spExc K C f ok) [] t σ H Q := by
  refine mono _ _ (fun vs H1 q => ?_) h
  obtain ⟨v, rfl, hv, k⟩ := q
  refine ⟨by show 1 ≤ 1000; decide, fun a ha => ⟨a, v, rfl, upd_same, hv, fun dx hdx ne => ⟨rfl, dx, [(f, v)], upd_same, by rw [upd_ne ne, upd_same], ?_, ?_⟩⟩⟩
  · rw [upd_ne ne] at hdx
    exact hdx
  · have hd : H1 dx = none := by
      rw [upd_ne ne] at hdx
      exact hdx
    rw [upd_raise ha hd ne rfl]
    exact k dx hd
theorem op_mul_str {X : Cx} : OpR X (binaryOp .Mult) (fun x y H Q => ∃ z n, x = .str z ∧ y = .int n ∧ MulOk z n ∧ Q (.str (Txt.mul z n)) H) := by
  intro pins s σ H x y v u Q I rx ry h
  obtain ⟨z, n, rfl, rfl, hz, q⟩ := h
  obtain ⟨t, rfl⟩ := rx
  obtain ⟨t', rfl⟩ := ry
  exact PySem.SB.mul hz fun t' tk => ⟨.str (Txt.mul z n), H, I.tok _, ⟨_, rfl⟩, q⟩
section
variable {σ : St} {H : Hp} {g : TG} {tb : TS} {nx : St → Hp → Prop} {rt : VK} {bk ct : St → Hp → Prop} {tl : TE} {K : PySem.W.Frag} {a : Addr} {xs : List V} {k : Nat}
theorem r_iTup {R : It → Hp → Prop} (h : tl σ H fun x H1 => ∃ a, x = .ref a ∧ (∃ xs, SqT K H1 a xs) ∧ R (Itt K a) H1) : iTup K tl σ H R := h
theorem r_tupI {P : It → Prop} (hs : SqT K H a xs) (h : P (Itt K a)) : ∃ b, V.ref a = .ref b ∧ (∃ xs, SqT K H b xs) ∧ P (Itt K b) := ⟨a, rfl, ⟨xs, hs⟩, h⟩
theorem for_tpl (Pv : Nat → St → Hp → Prop) (h0 : Pv 0 σ H) (hl : ∀ i σ H, i ≤ xs.length → Pv i σ H → SqT K H a xs) (hs : ∀ i x σ H, xs[i]? = some x → Pv i σ H → tb ⟨Pv (i + 1), rt, nx, Pv (i + 1)⟩ (σ.set k (some x)) H) (hd : ∀ σ H, Pv xs.length σ H → nx σ H) :
    forR (Itt K a) (gName k) tb ⟨nx, rt, bk, ct⟩ σ H := for_tup (D := ⟨nx, rt, bk, ct⟩) Pv h0 hl hs hd
theorem r_tXf {x : V} {cls : Value} {d : Option Addr} {C : Addr} {f : Str} {te : TE} {Q : VK} (h : te σ H fun x H1 => x = .ref a ∧ cls = .ref C ∧ ∃ (dd : Addr) (fs : List (Str × V)) (v : V), d = some dd ∧ H1 dd = some (.xd fs) ∧ fs.lookup f = some v ∧ Q v H1) : tXf a cls d C f te σ H Q := h
end
/-! ### isinstance of a caught error that has a dict of its own -/
namespace Xd
open PySem.W PySem.Calls
section
variable {prog : Program} {w : World} {A : Around} {E : Value → Shared → Prop} {s : Shared} {K : Frag} {x D : Addr} {ox : Obj}
theorem find_cls {od : Option Obj} (C : ExcC K D) : findObj K D od "__class__" = some (.bind (.builtin "getset_descriptor.__get__") (.builtin "object.__class__")) := by
  obtain ⟨cd, hc, _⟩ := any_some C.hd
  unfold findObj
  rw [hc, Option.bind_some, C.ha, Option.bind_some]
  simp [C.hn, C.ht]
theorem cls_of {Q : Option Value → Shared → Prop} {od : Option Obj} (C : ExcC K D) (X : K.In s.heap) (I : PySem.W.InstAt s.heap x ox D od) (h : Q (some (.ref D)) { s with toks := s.toks + 1 }) : wpAny (model prog w) A (getAttr? (.ref x) "__class__") Q E s := by
  have hf := find_cls (od := od) C
  obtain ⟨hp, g, d, t, os⟩ := s
  have T0 := I.type (M := model prog w)
  have T1 := looks_findIn (M := model prog w) X C.hg
  have T2 := looks_findIn (M := model prog w) X C.hk
  have T3 := looks_find (M := model prog w) X I hf
  have sub : Looks (model prog w) hp (isInstance (.ref x) (.type "BaseException")) true := T0.andThen (looks_subIn X C.hs)
  have n2 : (Value.builtin "BaseException.__getattribute__" == Value.builtin "object.__getattribute__") = false := by decide +kernel
  unfold getAttr? getAttrBy? getAttrBy
  refine wpAny_bind (wpAny_mkText (wpAny_bind (wpAny_attempt (wpAny_holding (wpAny_bind (T0.at (wpAny_bind (T1.at ?_))))))))
  show wpAny _ _ (if (onTheHeap (Value.ref D) && Value.builtin "BaseException.__getattribute__" == Value.builtin "object.__getattribute__") = true then _ else _) _ _ _
  rw [n2, Bool.and_false, if_neg Bool.false_ne_true]
  (unfold getAttrByItsOwn hookBefore; refine wpAny_bind ?_; rw [if_pos (show onTheHeap (Value.ref D) = true from rfl)])
  refine T2.at (wpAny_bind (wpAny_attempt (wpAny_holding ?_)))
  (unfold callGetattribute; rw [show (false && onTheHeap (Value.builtin "BaseException.__getattribute__")) = false from rfl, if_neg Bool.false_ne_true])
  (unfold boundAndCalled; rw [PySem.F.excAttr_ValueError.ga.bind (.ref x)])
  refine wpAny_bind (wpAny_pure ?_)
  show wpAny _ _ (call (.builtin "BaseException.__getattribute__") [.ref x, .str "__class__" t]) _ _ _
  refine wpAny_call (codeAny_call_builtin PySem.F.excAttr_ValueError.ga.plain PySem.F.entry_bexc_ga (@check_slot (model prog w) _ _ ⟨hp, g, d, t + 1, os⟩ "BaseException.__getattribute__" "BaseException" "__getattribute__" (.ref x) [.str "__class__" t] [] _ (by decide +kernel) (by decide +kernel) sub (PySem.F.args_bexc_ga (.ref x) (.str "__class__" t)) ?_))
  (unfold Builtin.«object.__getattribute__»; refine wpAny_bind (wpAny_of_eq (a := ((Value.ref x : Value), [Value.str "__class__" t])) (by first | rfl | (simp only [slotArgs]; rfl)) ?_))
  refine wpAny_bind (wpAny_pure (wpAny_bind (T0.at (wpAny_bind (T3.at ?_)))))
  show wpAny _ _ (holding [Value.builtin "object.__class__"] (call (.builtin "getset_descriptor.__get__") [.builtin "object.__class__", .ref x, .ref D]) >>= ret) _ _ _
  refine wpAny_bind (wpAny_holding (wpAny_call (class_get (s := ⟨hp, g, d, t + 1, os⟩) (ox := ox) (od := od) X I C.hm (wpAny_pure ?_))))
  (show wpAny _ _ (handedOut (.ref D)) _ _ _; rw [handedOut_of (v := .ref D) rfl])
  first
    | exact wpAny_pure (wpAny_pure h)
    | exact wpAny_pure (wpAny_bind (wpAny_pure (wpAny_pure h)))
theorem not_cls {h : Heap} {o : Obj} {D' : Addr} (hd : hasDictIn K D = true) (X : K.In h) (e : h.get? D' = some o) (hs : ∀ cd, o.data ≠ .cls cd) : D ≠ D' := fun z => by
  obtain ⟨cdD, hcD, _⟩ := any_some hd
  unfold clsIn at hcD
  split at hcD
  · rename_i c' d' cd' sl' ho
    rw [← z, X _ _ ho] at e
    cases e
    exact hs cd' rfl
  · cases hcD
theorem kit (C : ExcC K D) : KitX K (.ref x) (.ref D) (fun h => ∃ od, PySem.W.InstAt h x ox D od) where
  ty := fun M h X I => by
    obtain ⟨od, I⟩ := I
    exact I.type
  it := fun M h X _ => (handS_kitx_exc (x := x) (ox := ox) C.hg C.hk C.hs C.hd C.ha C.hn C.ht C.hm).it M h X |> fun f => by
    obtain ⟨cdD, hcD, _⟩ := any_some C.hd
    unfold clsIn at hcD
    split at hcD
    · rename_i c' d' cd' sl' ho
      intro A' Q' E' s' k q
      (unfold isType loadHead; exact wpAny_bind (wpAny_loadPart (k _ _ (X _ _ ho)) (wpAny_pure q)))
    · cases hcD
  ne := fun h tp dd its n sl X htp => Bool.eq_false_iff.mpr fun q => not_cls C.hd X htp (fun cd z => by cases z) (Value.ref.inj (beq_iff_eq.mp q))
  ca := fun X I k => by
    obtain ⟨od, I⟩ := I
    exact cls_of C X I k
end
end Xd
def rIsD (K : PySem.W.Frag) (D a : Addr) (d : Option Addr) : List V → Hp → VK → Prop := fun xs H Q => ∃ (c : V) (cv : Value) (b : Bool) (dd : Addr) (fs : List (Str × V)), xs = [.ref a, c] ∧ (∀ u, RelV c u → u = cv) ∧ PySem.W.kitOne K (.ref D) cv = some b ∧ d = some dd ∧ H dd = some (.xd fs) ∧ Q (.bl b) H
theorem call_isD {X : Cx} {a D : Addr} {d : Option Addr} {oe : Obj} {pn : List (Addr × Obj)} {cls : Value} (ec : cls = .ref D) (C : ExcC X.K D) (hz : Zc cls d oe) (hf : ∃ vs, oe.data = .fields vs) : CallR (X.suite a ((a, oe) :: pn)) (.builtin "isinstance") (rIsD X.K D a d) := by
  intro pins s σ H xs us Q I r h
  subst ec
  obtain ⟨c, cv, b, dd, fs, rfl, hcv, e, rfl, hdd, q⟩ := h
  cases r with
  | cons rx rr =>
    cases rr with
    | cons rt rr =>
      cases rr
      cases rx
      obtain rfl := hcv _ rt
      obtain ⟨hget, _⟩ := I.pin (a, oe) (List.mem_append.mpr (.inl List.mem_cons_self))
      obtain ⟨vs, hv⟩ := hf
      obtain ⟨od, hod⟩ := objOk_get (I.hok dd _ hdd)
      have J : PySem.W.InstAt s.heap a oe D (some od) := by
        obtain ⟨oc, ob, oda, osl⟩ := oe
        obtain ⟨h1, h2⟩ := hz
        (dsimp only at h1 h2 hv; subst h1 h2 hv)
        exact ⟨hget, rfl, rfl, hod⟩
      exact PySem.W.kia_one (Xd.kit C) I.kIn ⟨_, J⟩ e (fun z => nomatch z) fun tk => ⟨.bl b, H, I.kept (t' := tk) fun _ _ z => z, rfl, q⟩
/-! ### one step, at the goal's head -/
local macro_rules | `(tactic| walk_at "go1") => `(tactic| first
  | (with_reducible apply r_seq) | (with_reducible apply r_set) | (with_reducible apply r_if) | (with_reducible apply r_ret) | (with_reducible apply r_next)
  | (with_reducible apply r_op) | (with_reducible apply r_c) | ((with_reducible apply r_var); exact rfl) | (with_reducible apply r_consA) | (with_reducible apply r_nilA)
  | (with_reducible apply r_call) | (with_reducible apply r_callS) | (with_reducible apply r_CB) | (with_reducible apply r_I0) | (with_reducible apply r_test) | (with_reducible apply r_bl)
  | (with_reducible apply r_B) | (with_reducible apply r_un) | (with_reducible apply r_U) | ((with_reducible apply r_eq); exact rfl) | ((with_reducible apply r_ne); exact rfl)
  | (with_reducible apply r_and) | (with_reducible apply r_or) | (with_reducible apply r_not) | (with_reducible apply r_andV) | (with_reducible apply r_orV) | (with_reducible apply r_notV) | (with_reducible apply r_ifE)
  | (with_reducible apply r_asg) | (with_reducible apply r_sub) | (with_reducible apply r_par) | (with_reducible apply r_drop) | (with_reducible apply r_brk) | (with_reducible apply r_cont)
  | (with_reducible apply r_fld) | (with_reducible apply r_tup) | (with_reducible apply r_lst))
local macro_rules | `(tactic| walk_at "go") => `(tactic| repeat walk_at "go1")
local macro_rules | `(tactic| walk_at "go1") => `(tactic| first | (with_reducible apply r_make) | (with_reducible apply r_makeS))
local macro_rules | `(tactic| walk_at "go1") => `(tactic| first | (with_reducible apply r_for) | (with_reducible apply r_iRng1) | (with_reducible apply r_iList))
local macro_rules | `(tactic| walk_at "go1") => `(tactic| first | ((with_reducible apply r_ixL); exact SqL.of upd_same; exact rfl) | ((with_reducible apply r_ixT); exact SqT.of upd_same; exact rfl))
local macro_rules | `(tactic| walk_at "go2") => `(tactic| first | (refine Or.inl ⟨_, rfl, ?_⟩) | (refine ⟨_, rfl, ?_⟩) | (refine ⟨_, _, rfl, ?_⟩) | (refine ⟨_, _, rfl, rfl, ?_⟩))
local macro_rules | `(tactic| walk_at "go") => `(tactic| repeat first | walk_at "go1" | walk_at "go2")
local macro_rules | `(tactic| walk_at "go1") => `(tactic| ((with_reducible apply r_setL); exact upd_same; exact rfl))
local macro_rules | `(tactic| walk_at "go2") => `(tactic| (refine And.intro (by first | omega | (dsimp only; omega) | decide) ?_))
local macro_rules | `(tactic| walk_at "go1") => `(tactic| (with_reducible apply r_sfld))
local macro_rules | `(tactic| walk_at "go2") => `(tactic| (refine And.intro (show CPow _ _ from ⟨by decide, by decide, by decide⟩) ?_))
local macro_rules | `(tactic| walk_at "go2") => `(tactic| (refine And.intro (by assumption) ?_))
local macro_rules | `(tactic| walk_at "go1") => `(tactic| first | (with_reducible apply ite_nt) | (with_reducible apply ite_nf) | (with_reducible apply iteT) | (with_reducible apply iteF))
/-! ### the text by places -/
def top (i : Nat) : Stmt := PySem.Challenge.pw_linkwork_k04_texts_of_values.main.body.getD i (.Pass ⟨0, 0, 0, 0⟩)
abbrev s_BadText___init__ : Stmt := inClass (top 4) 0
abbrev s_Ratio___init__ : Stmt := inClass (top 8) 0
abbrev s_Ratio___eq__ : Stmt := inClass (top 8) 1
abbrev s_Ratio___add__ : Stmt := inClass (top 8) 2
abbrev s_Ratio___sub__ : Stmt := inClass (top 8) 3
abbrev s_Ratio___mul__ : Stmt := inClass (top 8) 4
abbrev s_Ratio___neg__ : Stmt := inClass (top 8) 5
abbrev s_ratio_text : Stmt := top 9
abbrev s_read_ratio : Stmt := top 10
abbrev s__integer_text : Stmt := top 11
abbrev s__read_integer : Stmt := top 12
abbrev s__law_stream : Stmt := top 14
abbrev s__law_draw : Stmt := top 15
abbrev s__law_pair : Stmt := top 16
abbrev s__law_is : Stmt := top 17
abbrev s__law_far : Stmt := top 18
abbrev s__law_whole : Stmt := top 19
abbrev s__law_drawn_pair : Stmt := top 20
abbrev s__law_told : Stmt := top 21
abbrev s__law_plain : Stmt := top 22
abbrev s__law_read : Stmt := top 23
abbrev s__law_of_any_length : Stmt := top 24
abbrev s_law : Stmt := top 25
/-! ### the head's facts -/
def d_BadText___init__ : He.DefD := ⟨(("BadText" : Str), some ("__init__" : Str)), ("__init__" : Str), ("BadText.__init__" : Str), defArgs s_BadText___init__, defBody s_BadText___init__, defScope s_BadText___init__, [], []⟩
def d_Ratio___init__ : He.DefD := ⟨(("Ratio" : Str), some ("__init__" : Str)), ("__init__" : Str), ("Ratio.__init__" : Str), defArgs s_Ratio___init__, defBody s_Ratio___init__, defScope s_Ratio___init__, [(.int (1))], []⟩
def d_Ratio___eq__ : He.DefD := ⟨(("Ratio" : Str), some ("__eq__" : Str)), ("__eq__" : Str), ("Ratio.__eq__" : Str), defArgs s_Ratio___eq__, defBody s_Ratio___eq__, defScope s_Ratio___eq__, [], []⟩
def d_Ratio___add__ : He.DefD := ⟨(("Ratio" : Str), some ("__add__" : Str)), ("__add__" : Str), ("Ratio.__add__" : Str), defArgs s_Ratio___add__, defBody s_Ratio___add__, defScope s_Ratio___add__, [], []⟩
def d_Ratio___sub__ : He.DefD := ⟨(("Ratio" : Str), some ("__sub__" : Str)), ("__sub__" : Str), ("Ratio.__sub__" : Str), defArgs s_Ratio___sub__, defBody s_Ratio___sub__, defScope s_Ratio___sub__, [], []⟩
def d_Ratio___mul__ : He.DefD := ⟨(("Ratio" : Str), some ("__mul__" : Str)), ("__mul__" : Str), ("Ratio.__mul__" : Str), defArgs s_Ratio___mul__, defBody s_Ratio___mul__, defScope s_Ratio___mul__, [], []⟩
def d_Ratio___neg__ : He.DefD := ⟨(("Ratio" : Str), some ("__neg__" : Str)), ("__neg__" : Str), ("Ratio.__neg__" : Str), defArgs s_Ratio___neg__, defBody s_Ratio___neg__, defScope s_Ratio___neg__, [], []⟩
def d_ratio_text : He.DefD := ⟨(("ratio_text" : Str), none), ("ratio_text" : Str), ("ratio_text" : Str), defArgs s_ratio_text, defBody s_ratio_text, defScope s_ratio_text, [], []⟩
def d_read_ratio : He.DefD := ⟨(("read_ratio" : Str), none), ("read_ratio" : Str), ("read_ratio" : Str), defArgs s_read_ratio, defBody s_read_ratio, defScope s_read_ratio, [], []⟩
def d__integer_text : He.DefD := ⟨(("_integer_text" : Str), none), ("_integer_text" : Str), ("_integer_text" : Str), defArgs s__integer_text, defBody s__integer_text, defScope s__integer_text, [], []⟩
def d__read_integer : He.DefD := ⟨(("_read_integer" : Str), none), ("_read_integer" : Str), ("_read_integer" : Str), defArgs s__read_integer, defBody s__read_integer, defScope s__read_integer, [], []⟩
def d__law_stream : He.DefD := ⟨(("_law_stream" : Str), none), ("_law_stream" : Str), ("_law_stream" : Str), defArgs s__law_stream, defBody s__law_stream, defScope s__law_stream, [], []⟩
def d__law_draw : He.DefD := ⟨(("_law_draw" : Str), none), ("_law_draw" : Str), ("_law_draw" : Str), defArgs s__law_draw, defBody s__law_draw, defScope s__law_draw, [], []⟩
def d__law_pair : He.DefD := ⟨(("_law_pair" : Str), none), ("_law_pair" : Str), ("_law_pair" : Str), defArgs s__law_pair, defBody s__law_pair, defScope s__law_pair, [], []⟩
def d__law_is : He.DefD := ⟨(("_law_is" : Str), none), ("_law_is" : Str), ("_law_is" : Str), defArgs s__law_is, defBody s__law_is, defScope s__law_is, [], []⟩
def d__law_far : He.DefD := ⟨(("_law_far" : Str), none), ("_law_far" : Str), ("_law_far" : Str), defArgs s__law_far, defBody s__law_far, defScope s__law_far, [], []⟩
def d__law_whole : He.DefD := ⟨(("_law_whole" : Str), none), ("_law_whole" : Str), ("_law_whole" : Str), defArgs s__law_whole, defBody s__law_whole, defScope s__law_whole, [], []⟩
def d__law_drawn_pair : He.DefD := ⟨(("_law_drawn_pair" : Str), none), ("_law_drawn_pair" : Str), ("_law_drawn_pair" : Str), defArgs s__law_drawn_pair, defBody s__law_drawn_pair, defScope s__law_drawn_pair, [], []⟩
def d__law_told : He.DefD := ⟨(("_law_told" : Str), none), ("_law_told" : Str), ("_law_told" : Str), defArgs s__law_told, defBody s__law_told, defScope s__law_told, [], []⟩
def d__law_plain : He.DefD := ⟨(("_law_plain" : Str), none), ("_law_plain" : Str), ("_law_plain" : Str), defArgs s__law_plain, defBody s__law_plain, defScope s__law_plain, [], []⟩
def d__law_read : He.DefD := ⟨(("_law_read" : Str), none), ("_law_read" : Str), ("_law_read" : Str), defArgs s__law_read, defBody s__law_read, defScope s__law_read, [], []⟩
def d__law_of_any_length : He.DefD := ⟨(("_law_of_any_length" : Str), none), ("_law_of_any_length" : Str), ("_law_of_any_length" : Str), defArgs s__law_of_any_length, defBody s__law_of_any_length, defScope s__law_of_any_length, [], []⟩
def d_law : He.DefD := ⟨(("law" : Str), none), ("law" : Str), ("law" : Str), defArgs s_law, defBody s_law, defScope s_law, [], []⟩
def fnL : List He.DefD := [d_BadText___init__, d_Ratio___init__, d_Ratio___eq__, d_Ratio___add__, d_Ratio___sub__, d_Ratio___mul__, d_Ratio___neg__, d_ratio_text, d_read_ratio, d__integer_text, d__read_integer, d__law_stream, d__law_draw, d__law_pair, d__law_is, d__law_far, d__law_whole, d__law_drawn_pair, d__law_told, d__law_plain, d__law_read, d__law_of_any_length, d_law]
def faL : List He.Fa := [.glo ("ratio_text" : Str), .glo ("read_ratio" : Str), .glo ("_integer_text" : Str), .glo ("_read_integer" : Str), .glo ("_law_stream" : Str), .glo ("_law_draw" : Str), .glo ("_law_pair" : Str), .glo ("_law_is" : Str), .glo ("_law_far" : Str), .glo ("_law_whole" : Str), .glo ("_law_drawn_pair" : Str), .glo ("_law_told" : Str), .glo ("_law_plain" : Str), .glo ("_law_read" : Str), .glo ("_law_of_any_length" : Str), .glo ("law" : Str), .glo ("LinkworkError" : Str), .glo ("ByZero" : Str), .glo ("BadText" : Str), .glo ("Ratio" : Str), .free ("abs" : Str), .free ("bool" : Str), .free ("divmod" : Str), .free ("int" : Str), .free ("isinstance" : Str), .free ("len" : Str), .free ("list" : Str), .free ("range" : Str), .free ("str" : Str), .int ("CHUNK_DIGITS" : Str) (64), .int ("CHUNK" : Str) (10000000000000000000000000000000000000000000000000000000000000000), .exc ("LinkworkError" : Str), .exc ("ByZero" : Str), .cls ("Ratio" : Str), .noat ("Ratio" : Str) ("top" : Str), .noat ("Ratio" : Str) ("bottom" : Str), .mkr ("Ratio" : Str), .meth ("Ratio" : Str) ("__eq__" : Str), .meth ("Ratio" : Str) ("__add__" : Str), .meth ("Ratio" : Str) ("__sub__" : Str), .meth ("Ratio" : Str) ("__mul__" : Str), .meth ("Ratio" : Str) ("__neg__" : Str), .exm ("ByZero" : Str) ("ByZero" : Str) true, .exm ("BadText" : Str) ("BadText" : Str) true]
def ex_imp_gcd (K : PySem.W.Frag) : Bool := He.eqO (PySem.W.nsIn K mainGlobals ("gcd" : Str)) (some (some (.builtin "math.gcd")))
def ex_lw_LinkworkError (K : PySem.W.Frag) : Bool := lwB K (He.ga K ("LinkworkError" : Str))
def ex_excC_LinkworkError (K : PySem.W.Frag) : Bool := excCB K (He.ga K ("LinkworkError" : Str))
def ex_excC_ByZero (K : PySem.W.Frag) : Bool := excCB K (He.ga K ("ByZero" : Str))
def ex_excC_BadText (K : PySem.W.Frag) : Bool := excCB K (He.ga K ("BadText" : Str))
def ex_oex_BadText (K : PySem.W.Frag) : Bool := oexB K (He.ga K ("BadText" : Str)) (He.ma K (He.ga K ("BadText" : Str)) "__init__")
def ex_xf_BadText_at (K : PySem.W.Frag) : Bool := He.eqO (PySem.W.findIn K (.ref (He.ga K ("BadText" : Str))) ("at" : Str)) (some none)
def ex_xfr_BadText (K : PySem.W.Frag) : Bool := xfB K (He.ga K ("BadText" : Str))
def ex_isi_Ratio (K : PySem.W.Frag) : Bool := isiCB K (He.ga K ("Ratio" : Str))
def ex_first_Ratio (K : PySem.W.Frag) : Bool := PySem.W.selfFirst K (He.ga K ("Ratio" : Str))
def ex_kit_ByZero_LinkworkError (K : PySem.W.Frag) : Bool := decide (PySem.W.kitOne K (.ref (He.ga K ("ByZero" : Str))) (.ref (He.ga K ("LinkworkError" : Str))) = some true)
def ex_kit_Ratio_Ratio (K : PySem.W.Frag) : Bool := decide (PySem.W.kitOne K (.ref (He.ga K ("Ratio" : Str))) (.ref (He.ga K ("Ratio" : Str))) = some true)
def ex_kit_t_int_t_bool (K : PySem.W.Frag) : Bool := decide (PySem.W.kitOne K (.type "int") (.type "bool") = some false)
def ex_kit_Ratio_t_bool (K : PySem.W.Frag) : Bool := decide (PySem.W.kitOne K (.ref (He.ga K ("Ratio" : Str))) (.type "bool") = some false)
def ex_kit_t_bool_t_bool (K : PySem.W.Frag) : Bool := decide (PySem.W.kitOne K (.type "bool") (.type "bool") = some true)
def ex_kit_t_str_t_str (K : PySem.W.Frag) : Bool := decide (PySem.W.kitOne K (.type "str") (.type "str") = some true)
def ex_kit_Ratio_t_str (K : PySem.W.Frag) : Bool := decide (PySem.W.kitOne K (.ref (He.ga K ("Ratio" : Str))) (.type "str") = some false)
def exL : List (PySem.W.Frag → Bool) := [ex_imp_gcd, ex_lw_LinkworkError, ex_excC_LinkworkError, ex_excC_ByZero, ex_excC_BadText, ex_oex_BadText, ex_xf_BadText_at, ex_xfr_BadText, ex_isi_Ratio, ex_first_Ratio, ex_kit_ByZero_LinkworkError, ex_kit_Ratio_Ratio, ex_kit_t_int_t_bool, ex_kit_Ratio_t_bool, ex_kit_t_bool_t_bool, ex_kit_t_str_t_str, ex_kit_Ratio_t_str]
def exB (K : PySem.W.Frag) : Bool := exL.all fun f => f K
abbrev R : PySem.W.OpenRow := PySem.W.OpenLaw.row PySem.Challenge.rw_linkwork_k04_texts_of_values
abbrev hk : PySem.W.Hook := hookS 5 faL fnL exB
def ob (s : PySem.W.SharedT) : AlS := obsS 5 faL fnL exB (HeadRun.getT s)
theorem ob_eq (s : PySem.W.SharedT) : ob s = hk.obs s.abs := obsS_eq (HeadRun.getT_eq s)
def looseL : List PySem.Str := [("__name__" : Str), ("LinkworkError" : Str), ("ByZero" : Str), ("BadText" : Str), ("CHUNK_DIGITS" : Str), ("CHUNK" : Str), ("Ratio" : Str), ("ratio_text" : Str), ("read_ratio" : Str), ("_integer_text" : Str), ("_read_integer" : Str), ("_law_stream" : Str), ("_law_draw" : Str), ("_law_pair" : Str), ("_law_is" : Str), ("_law_far" : Str), ("_law_whole" : Str), ("_law_drawn_pair" : Str), ("_law_told" : Str), ("_law_plain" : Str), ("_law_read" : Str), ("_law_of_any_length" : Str)]
abbrev qv : Program := PySem.W.view R.prog [0, 25]
theorem run (w : World) : HeadRun.RunEqI R qv hk ob 4000 looseL w := by
  unfold HeadRun.RunEqI
  kernel_rfl
/-! ### the facts by names -/
def Top (w : World) (K : PySem.W.Frag) (mg : Str → Option Value) : Prop := ∃ h : Heap, K.In h ∧ h.Ns mainGlobals mg ∧ SaysS faL fnL exB K
noncomputable def fdOf (K : PySem.W.Frag) (d : He.DefD) : FuncData := @Classical.epsilon FuncData ⟨PySem.W.fnOf d.name d.qual d.params d.body d.scope .none .none .none .none none .none .none⟩ fun fd => FunD K d.name d.qual d.params d.body d.scope (d.dvs K) (d.kws K) (He.fAd K d.at_) fd
section
variable {w : World} {K : PySem.W.Frag} {mg : Str → Option Value}
theorem Top.fun_ (T : Top w K mg) (i : Nat) {d : He.DefD} (h : fnL[i]? = some d) : FunD K d.name d.qual d.params d.body d.scope (d.dvs K) (d.kws K) (He.fAd K d.at_) (fdOf K d) := by
  obtain ⟨_, _, _, c⟩ := T
  exact Classical.epsilon_spec (c.d.def_ i h)
theorem Top.fact (T : Top w K mg) (i : Nat) {f : He.Fa} (h : faL[i]? = some f) : f.ok K = true := by
  obtain ⟨_, _, _, c⟩ := T
  exact c.d.fact i h
theorem Top.ex (T : Top w K mg) (i : Nat) {f : PySem.W.Frag → Bool} (h : exL[i]? = some f) : f K = true := by
  obtain ⟨_, _, _, c⟩ := T
  exact List.all_eq_true.mp (show (exL.all fun f => f K) = true from c.more) f (List.mem_of_getElem? h)
theorem Top.g_ratio_text (T : Top w K mg) : mg ("ratio_text" : Str) = some (.ref (He.ga K ("ratio_text" : Str))) := by obtain ⟨h, X, G, c⟩ := T; exact He.glo_ok X G (c.d.fact 0 rfl)
theorem Top.g_read_ratio (T : Top w K mg) : mg ("read_ratio" : Str) = some (.ref (He.ga K ("read_ratio" : Str))) := by obtain ⟨h, X, G, c⟩ := T; exact He.glo_ok X G (c.d.fact 1 rfl)
theorem Top.g__integer_text (T : Top w K mg) : mg ("_integer_text" : Str) = some (.ref (He.ga K ("_integer_text" : Str))) := by obtain ⟨h, X, G, c⟩ := T; exact He.glo_ok X G (c.d.fact 2 rfl)
theorem Top.g__read_integer (T : Top w K mg) : mg ("_read_integer" : Str) = some (.ref (He.ga K ("_read_integer" : Str))) := by obtain ⟨h, X, G, c⟩ := T; exact He.glo_ok X G (c.d.fact 3 rfl)
theorem Top.g__law_stream (T : Top w K mg) : mg ("_law_stream" : Str) = some (.ref (He.ga K ("_law_stream" : Str))) := by obtain ⟨h, X, G, c⟩ := T; exact He.glo_ok X G (c.d.fact 4 rfl)
theorem Top.g__law_draw (T : Top w K mg) : mg ("_law_draw" : Str) = some (.ref (He.ga K ("_law_draw" : Str))) := by obtain ⟨h, X, G, c⟩ := T; exact He.glo_ok X G (c.d.fact 5 rfl)
theorem Top.g__law_pair (T : Top w K mg) : mg ("_law_pair" : Str) = some (.ref (He.ga K ("_law_pair" : Str))) := by obtain ⟨h, X, G, c⟩ := T; exact He.glo_ok X G (c.d.fact 6 rfl)
theorem Top.g__law_is (T : Top w K mg) : mg ("_law_is" : Str) = some (.ref (He.ga K ("_law_is" : Str))) := by obtain ⟨h, X, G, c⟩ := T; exact He.glo_ok X G (c.d.fact 7 rfl)
theorem Top.g__law_far (T : Top w K mg) : mg ("_law_far" : Str) = some (.ref (He.ga K ("_law_far" : Str))) := by obtain ⟨h, X, G, c⟩ := T; exact He.glo_ok X G (c.d.fact 8 rfl)
theorem Top.g__law_whole (T : Top w K mg) : mg ("_law_whole" : Str) = some (.ref (He.ga K ("_law_whole" : Str))) := by obtain ⟨h, X, G, c⟩ := T; exact He.glo_ok X G (c.d.fact 9 rfl)
theorem Top.g__law_drawn_pair (T : Top w K mg) : mg ("_law_drawn_pair" : Str) = some (.ref (He.ga K ("_law_drawn_pair" : Str))) := by obtain ⟨h, X, G, c⟩ := T; exact He.glo_ok X G (c.d.fact 10 rfl)
theorem Top.g__law_told (T : Top w K mg) : mg ("_law_told" : Str) = some (.ref (He.ga K ("_law_told" : Str))) := by obtain ⟨h, X, G, c⟩ := T; exact He.glo_ok X G (c.d.fact 11 rfl)
theorem Top.g__law_plain (T : Top w K mg) : mg ("_law_plain" : Str) = some (.ref (He.ga K ("_law_plain" : Str))) := by obtain ⟨h, X, G, c⟩ := T; exact He.glo_ok X G (c.d.fact 12 rfl)
theorem Top.g__law_read (T : Top w K mg) : mg ("_law_read" : Str) = some (.ref (He.ga K ("_law_read" : Str))) := by obtain ⟨h, X, G, c⟩ := T; exact He.glo_ok X G (c.d.fact 13 rfl)
theorem Top.g__law_of_any_length (T : Top w K mg) : mg ("_law_of_any_length" : Str) = some (.ref (He.ga K ("_law_of_any_length" : Str))) := by obtain ⟨h, X, G, c⟩ := T; exact He.glo_ok X G (c.d.fact 14 rfl)
theorem Top.g_law (T : Top w K mg) : mg ("law" : Str) = some (.ref (He.ga K ("law" : Str))) := by obtain ⟨h, X, G, c⟩ := T; exact He.glo_ok X G (c.d.fact 15 rfl)
theorem Top.g_LinkworkError (T : Top w K mg) : mg ("LinkworkError" : Str) = some (.ref (He.ga K ("LinkworkError" : Str))) := by obtain ⟨h, X, G, c⟩ := T; exact He.glo_ok X G (c.d.fact 16 rfl)
theorem Top.g_ByZero (T : Top w K mg) : mg ("ByZero" : Str) = some (.ref (He.ga K ("ByZero" : Str))) := by obtain ⟨h, X, G, c⟩ := T; exact He.glo_ok X G (c.d.fact 17 rfl)
theorem Top.g_BadText (T : Top w K mg) : mg ("BadText" : Str) = some (.ref (He.ga K ("BadText" : Str))) := by obtain ⟨h, X, G, c⟩ := T; exact He.glo_ok X G (c.d.fact 18 rfl)
theorem Top.g_Ratio (T : Top w K mg) : mg ("Ratio" : Str) = some (.ref (He.ga K ("Ratio" : Str))) := by obtain ⟨h, X, G, c⟩ := T; exact He.glo_ok X G (c.d.fact 19 rfl)
theorem Top.n_abs (T : Top w K mg) : mg ("abs" : Str) = none := by obtain ⟨h, X, G, c⟩ := T; exact He.free_ok X G (c.d.fact 20 rfl)
theorem Top.n_bool (T : Top w K mg) : mg ("bool" : Str) = none := by obtain ⟨h, X, G, c⟩ := T; exact He.free_ok X G (c.d.fact 21 rfl)
theorem Top.n_divmod (T : Top w K mg) : mg ("divmod" : Str) = none := by obtain ⟨h, X, G, c⟩ := T; exact He.free_ok X G (c.d.fact 22 rfl)
theorem Top.n_int (T : Top w K mg) : mg ("int" : Str) = none := by obtain ⟨h, X, G, c⟩ := T; exact He.free_ok X G (c.d.fact 23 rfl)
theorem Top.n_isinstance (T : Top w K mg) : mg ("isinstance" : Str) = none := by obtain ⟨h, X, G, c⟩ := T; exact He.free_ok X G (c.d.fact 24 rfl)
theorem Top.n_len (T : Top w K mg) : mg ("len" : Str) = none := by obtain ⟨h, X, G, c⟩ := T; exact He.free_ok X G (c.d.fact 25 rfl)
theorem Top.n_list (T : Top w K mg) : mg ("list" : Str) = none := by obtain ⟨h, X, G, c⟩ := T; exact He.free_ok X G (c.d.fact 26 rfl)
theorem Top.n_range (T : Top w K mg) : mg ("range" : Str) = none := by obtain ⟨h, X, G, c⟩ := T; exact He.free_ok X G (c.d.fact 27 rfl)
theorem Top.n_str (T : Top w K mg) : mg ("str" : Str) = none := by obtain ⟨h, X, G, c⟩ := T; exact He.free_ok X G (c.d.fact 28 rfl)
theorem Top.i_CHUNK_DIGITS (T : Top w K mg) : ∃ u, mg ("CHUNK_DIGITS" : Str) = some u ∧ RelV (.int (64)) u := by obtain ⟨h, X, G, c⟩ := T; obtain ⟨t, e⟩ := He.int_ok X G (c.d.fact 29 rfl); exact ⟨_, e, t, rfl⟩
theorem Top.i_CHUNK (T : Top w K mg) : ∃ u, mg ("CHUNK" : Str) = some u ∧ RelV (.int (10000000000000000000000000000000000000000000000000000000000000000)) u := by obtain ⟨h, X, G, c⟩ := T; obtain ⟨t, e⟩ := He.int_ok X G (c.d.fact 30 rfl); exact ⟨_, e, t, rfl⟩
theorem Top.exc_LinkworkError (T : Top w K mg) : PySem.W.excIn K (He.ga K ("LinkworkError" : Str)) He.veBase "ValueError.__new__" = true ∧ PySem.W.keepIn K (.ref (He.ga K ("LinkworkError" : Str))) = true ∧ PySem.W.subIn K (.ref (He.ga K ("LinkworkError" : Str))) (.type "BaseException") = some true ∧ PySem.W.typeIn K (.ref (He.ga K ("LinkworkError" : Str))) = some (.type "type") := He.exc_ok (T.fact 31 rfl)
theorem Top.exc_ByZero (T : Top w K mg) : PySem.W.excIn K (He.ga K ("ByZero" : Str)) He.veBase "ValueError.__new__" = true ∧ PySem.W.keepIn K (.ref (He.ga K ("ByZero" : Str))) = true ∧ PySem.W.subIn K (.ref (He.ga K ("ByZero" : Str))) (.type "BaseException") = some true ∧ PySem.W.typeIn K (.ref (He.ga K ("ByZero" : Str))) = some (.type "type") := He.exc_ok (T.fact 32 rfl)
theorem Top.cls_Ratio (T : Top w K mg) : Cls K (He.ga K ("Ratio" : Str)) := He.cls_ok (T.fact 33 rfl)
theorem Top.na_Ratio_top (T : Top w K mg) : NoAttr K (He.ga K ("Ratio" : Str)) ("top" : Str) := He.noat_ok (T.fact 34 rfl)
theorem Top.na_Ratio_bottom (T : Top w K mg) : NoAttr K (He.ga K ("Ratio" : Str)) ("bottom" : Str) := He.noat_ok (T.fact 35 rfl)
theorem Top.mk_Ratio (T : Top w K mg) : Mk K (He.ga K ("Ratio" : Str)) (He.ma K (He.ga K ("Ratio" : Str)) "__init__") := He.mkr_ok (T.fact 36 rfl)
theorem Top.m_Ratio___eq__ (T : Top w K mg) : Meth K (He.ga K ("Ratio" : Str)) ("__eq__" : Str) (He.ma K (He.ga K ("Ratio" : Str)) ("__eq__" : Str)) := He.meth_ok (T.fact 37 rfl)
theorem Top.m_Ratio___add__ (T : Top w K mg) : Meth K (He.ga K ("Ratio" : Str)) ("__add__" : Str) (He.ma K (He.ga K ("Ratio" : Str)) ("__add__" : Str)) := He.meth_ok (T.fact 38 rfl)
theorem Top.m_Ratio___sub__ (T : Top w K mg) : Meth K (He.ga K ("Ratio" : Str)) ("__sub__" : Str) (He.ma K (He.ga K ("Ratio" : Str)) ("__sub__" : Str)) := He.meth_ok (T.fact 39 rfl)
theorem Top.m_Ratio___mul__ (T : Top w K mg) : Meth K (He.ga K ("Ratio" : Str)) ("__mul__" : Str) (He.ma K (He.ga K ("Ratio" : Str)) ("__mul__" : Str)) := He.meth_ok (T.fact 40 rfl)
theorem Top.m_Ratio___neg__ (T : Top w K mg) : Meth K (He.ga K ("Ratio" : Str)) ("__neg__" : Str) (He.ma K (He.ga K ("Ratio" : Str)) ("__neg__" : Str)) := He.meth_ok (T.fact 41 rfl)
theorem Top.exm_ByZero_ByZero (T : Top w K mg) : PySem.W.exmOne K (.ref (He.ga K ("ByZero" : Str))) (.ref (He.ga K ("ByZero" : Str))) = some true := He.exm_ok (T.fact 42 rfl)
theorem Top.exm_BadText_BadText (T : Top w K mg) : PySem.W.exmOne K (.ref (He.ga K ("BadText" : Str))) (.ref (He.ga K ("BadText" : Str))) = some true := He.exm_ok (T.fact 43 rfl)
theorem Top.x_imp_gcd (T : Top w K mg) : ex_imp_gcd K = true := T.ex 0 rfl
theorem Top.x_lw_LinkworkError (T : Top w K mg) : ex_lw_LinkworkError K = true := T.ex 1 rfl
theorem Top.x_excC_LinkworkError (T : Top w K mg) : ex_excC_LinkworkError K = true := T.ex 2 rfl
theorem Top.x_excC_ByZero (T : Top w K mg) : ex_excC_ByZero K = true := T.ex 3 rfl
theorem Top.x_excC_BadText (T : Top w K mg) : ex_excC_BadText K = true := T.ex 4 rfl
theorem Top.x_oex_BadText (T : Top w K mg) : ex_oex_BadText K = true := T.ex 5 rfl
theorem Top.x_xf_BadText_at (T : Top w K mg) : ex_xf_BadText_at K = true := T.ex 6 rfl
theorem Top.x_xfr_BadText (T : Top w K mg) : ex_xfr_BadText K = true := T.ex 7 rfl
theorem Top.x_isi_Ratio (T : Top w K mg) : ex_isi_Ratio K = true := T.ex 8 rfl
theorem Top.x_first_Ratio (T : Top w K mg) : ex_first_Ratio K = true := T.ex 9 rfl
theorem Top.x_kit_ByZero_LinkworkError (T : Top w K mg) : ex_kit_ByZero_LinkworkError K = true := T.ex 10 rfl
theorem Top.x_kit_Ratio_Ratio (T : Top w K mg) : ex_kit_Ratio_Ratio K = true := T.ex 11 rfl
theorem Top.x_kit_t_int_t_bool (T : Top w K mg) : ex_kit_t_int_t_bool K = true := T.ex 12 rfl
theorem Top.x_kit_Ratio_t_bool (T : Top w K mg) : ex_kit_Ratio_t_bool K = true := T.ex 13 rfl
theorem Top.x_kit_t_bool_t_bool (T : Top w K mg) : ex_kit_t_bool_t_bool K = true := T.ex 14 rfl
theorem Top.x_kit_t_str_t_str (T : Top w K mg) : ex_kit_t_str_t_str K = true := T.ex 15 rfl
theorem Top.x_kit_Ratio_t_str (T : Top w K mg) : ex_kit_Ratio_t_str K = true := T.ex 16 rfl
theorem Top.gcdM (T : Top w K mg) : mg ("gcd" : Str) = some (.builtin "math.gcd") := by have e := T.x_imp_gcd; obtain ⟨h, X, G, c⟩ := T; exact PySem.W.mg_of X G (He.eqO_ok e)
theorem Top.f_BadText___init__ (T : Top w K mg) : FunD K ("__init__" : Str) ("BadText.__init__" : Str) (defArgs s_BadText___init__) (defBody s_BadText___init__) (defScope s_BadText___init__) (d_BadText___init__.dvs K) (d_BadText___init__.kws K) (He.ma K (He.ga K ("BadText" : Str)) ("__init__" : Str)) (fdOf K d_BadText___init__) := T.fun_ 0 rfl
theorem Top.b_BadText___init__ (T : Top w K mg) : Binds K (fdOf K d_BadText___init__) ["self", "at"] [] := (show FunD K ("__init__" : Str) ("BadText.__init__" : Str) (defArgs s_BadText___init__) (defBody s_BadText___init__) (defScope s_BadText___init__) [] (d_BadText___init__.kws K) (He.ma K (He.ga K ("BadText" : Str)) ("__init__" : Str)) (fdOf K d_BadText___init__) from T.f_BadText___init__).bindsN fun _ _ _ _ _ _ us hl => match us, hl with | [_, _], _ => rfl
theorem sc_BadText___init__ : FnScope ["self", "at"] ["self", "at"] (defScope s_BadText___init__) := ⟨rfl, rfl, rfl, by decide +kernel, rfl, by decide +kernel, by decide +kernel⟩
theorem Top.f_Ratio___init__ (T : Top w K mg) : FunD K ("__init__" : Str) ("Ratio.__init__" : Str) (defArgs s_Ratio___init__) (defBody s_Ratio___init__) (defScope s_Ratio___init__) (d_Ratio___init__.dvs K) (d_Ratio___init__.kws K) (He.ma K (He.ga K ("Ratio" : Str)) ("__init__" : Str)) (fdOf K d_Ratio___init__) := T.fun_ 1 rfl
theorem Top.b0_Ratio___init__ (T : Top w K mg) : ∃ ds, Vals ((d_Ratio___init__.dvs K).drop 0) ds ∧ Binds K (fdOf K d_Ratio___init__) ["self", "numerator", "denominator"] ds := T.f_Ratio___init__.binds1 2 0 (by intro z; cases z) rfl fun _ _ _ _ _ _ _ us its h1 h2 => match us, its, h1, h2 with | [_, _], [_], _, _ => ⟨_, rfl, rfl⟩
theorem Top.b1_Ratio___init__ (T : Top w K mg) : ∃ ds, Vals ((d_Ratio___init__.dvs K).drop 1) ds ∧ Binds K (fdOf K d_Ratio___init__) ["self", "numerator", "denominator"] ds := T.f_Ratio___init__.binds1 3 1 (by intro z; cases z) rfl fun _ _ _ _ _ _ _ us its h1 h2 => match us, its, h1, h2 with | [_, _, _], [_], _, _ => ⟨_, rfl, rfl⟩
theorem sc_Ratio___init__ : FnScope ["self", "numerator", "denominator", "divisor"] ["self", "numerator", "denominator"] (defScope s_Ratio___init__) := ⟨rfl, rfl, rfl, by decide +kernel, rfl, by decide +kernel, by decide +kernel⟩
theorem Top.f_Ratio___eq__ (T : Top w K mg) : FunD K ("__eq__" : Str) ("Ratio.__eq__" : Str) (defArgs s_Ratio___eq__) (defBody s_Ratio___eq__) (defScope s_Ratio___eq__) (d_Ratio___eq__.dvs K) (d_Ratio___eq__.kws K) (He.ma K (He.ga K ("Ratio" : Str)) ("__eq__" : Str)) (fdOf K d_Ratio___eq__) := T.fun_ 2 rfl
theorem Top.b_Ratio___eq__ (T : Top w K mg) : Binds K (fdOf K d_Ratio___eq__) ["self", "other"] [] := (show FunD K ("__eq__" : Str) ("Ratio.__eq__" : Str) (defArgs s_Ratio___eq__) (defBody s_Ratio___eq__) (defScope s_Ratio___eq__) [] (d_Ratio___eq__.kws K) (He.ma K (He.ga K ("Ratio" : Str)) ("__eq__" : Str)) (fdOf K d_Ratio___eq__) from T.f_Ratio___eq__).bindsN fun _ _ _ _ _ _ us hl => match us, hl with | [_, _], _ => rfl
theorem sc_Ratio___eq__ : FnScope ["self", "other"] ["self", "other"] (defScope s_Ratio___eq__) := ⟨rfl, rfl, rfl, by decide +kernel, rfl, by decide +kernel, by decide +kernel⟩
theorem Top.f_Ratio___add__ (T : Top w K mg) : FunD K ("__add__" : Str) ("Ratio.__add__" : Str) (defArgs s_Ratio___add__) (defBody s_Ratio___add__) (defScope s_Ratio___add__) (d_Ratio___add__.dvs K) (d_Ratio___add__.kws K) (He.ma K (He.ga K ("Ratio" : Str)) ("__add__" : Str)) (fdOf K d_Ratio___add__) := T.fun_ 3 rfl
theorem Top.b_Ratio___add__ (T : Top w K mg) : Binds K (fdOf K d_Ratio___add__) ["self", "other"] [] := (show FunD K ("__add__" : Str) ("Ratio.__add__" : Str) (defArgs s_Ratio___add__) (defBody s_Ratio___add__) (defScope s_Ratio___add__) [] (d_Ratio___add__.kws K) (He.ma K (He.ga K ("Ratio" : Str)) ("__add__" : Str)) (fdOf K d_Ratio___add__) from T.f_Ratio___add__).bindsN fun _ _ _ _ _ _ us hl => match us, hl with | [_, _], _ => rfl
theorem sc_Ratio___add__ : FnScope ["self", "other"] ["self", "other"] (defScope s_Ratio___add__) := ⟨rfl, rfl, rfl, by decide +kernel, rfl, by decide +kernel, by decide +kernel⟩
theorem Top.f_Ratio___sub__ (T : Top w K mg) : FunD K ("__sub__" : Str) ("Ratio.__sub__" : Str) (defArgs s_Ratio___sub__) (defBody s_Ratio___sub__) (defScope s_Ratio___sub__) (d_Ratio___sub__.dvs K) (d_Ratio___sub__.kws K) (He.ma K (He.ga K ("Ratio" : Str)) ("__sub__" : Str)) (fdOf K d_Ratio___sub__) := T.fun_ 4 rfl
theorem Top.b_Ratio___sub__ (T : Top w K mg) : Binds K (fdOf K d_Ratio___sub__) ["self", "other"] [] := (show FunD K ("__sub__" : Str) ("Ratio.__sub__" : Str) (defArgs s_Ratio___sub__) (defBody s_Ratio___sub__) (defScope s_Ratio___sub__) [] (d_Ratio___sub__.kws K) (He.ma K (He.ga K ("Ratio" : Str)) ("__sub__" : Str)) (fdOf K d_Ratio___sub__) from T.f_Ratio___sub__).bindsN fun _ _ _ _ _ _ us hl => match us, hl with | [_, _], _ => rfl
theorem sc_Ratio___sub__ : FnScope ["self", "other"] ["self", "other"] (defScope s_Ratio___sub__) := ⟨rfl, rfl, rfl, by decide +kernel, rfl, by decide +kernel, by decide +kernel⟩
theorem Top.f_Ratio___mul__ (T : Top w K mg) : FunD K ("__mul__" : Str) ("Ratio.__mul__" : Str) (defArgs s_Ratio___mul__) (defBody s_Ratio___mul__) (defScope s_Ratio___mul__) (d_Ratio___mul__.dvs K) (d_Ratio___mul__.kws K) (He.ma K (He.ga K ("Ratio" : Str)) ("__mul__" : Str)) (fdOf K d_Ratio___mul__) := T.fun_ 5 rfl
theorem Top.b_Ratio___mul__ (T : Top w K mg) : Binds K (fdOf K d_Ratio___mul__) ["self", "other"] [] := (show FunD K ("__mul__" : Str) ("Ratio.__mul__" : Str) (defArgs s_Ratio___mul__) (defBody s_Ratio___mul__) (defScope s_Ratio___mul__) [] (d_Ratio___mul__.kws K) (He.ma K (He.ga K ("Ratio" : Str)) ("__mul__" : Str)) (fdOf K d_Ratio___mul__) from T.f_Ratio___mul__).bindsN fun _ _ _ _ _ _ us hl => match us, hl with | [_, _], _ => rfl
theorem sc_Ratio___mul__ : FnScope ["self", "other"] ["self", "other"] (defScope s_Ratio___mul__) := ⟨rfl, rfl, rfl, by decide +kernel, rfl, by decide +kernel, by decide +kernel⟩
theorem Top.f_Ratio___neg__ (T : Top w K mg) : FunD K ("__neg__" : Str) ("Ratio.__neg__" : Str) (defArgs s_Ratio___neg__) (defBody s_Ratio___neg__) (defScope s_Ratio___neg__) (d_Ratio___neg__.dvs K) (d_Ratio___neg__.kws K) (He.ma K (He.ga K ("Ratio" : Str)) ("__neg__" : Str)) (fdOf K d_Ratio___neg__) := T.fun_ 6 rfl
theorem Top.b_Ratio___neg__ (T : Top w K mg) : Binds K (fdOf K d_Ratio___neg__) ["self"] [] := (show FunD K ("__neg__" : Str) ("Ratio.__neg__" : Str) (defArgs s_Ratio___neg__) (defBody s_Ratio___neg__) (defScope s_Ratio___neg__) [] (d_Ratio___neg__.kws K) (He.ma K (He.ga K ("Ratio" : Str)) ("__neg__" : Str)) (fdOf K d_Ratio___neg__) from T.f_Ratio___neg__).bindsN fun _ _ _ _ _ _ us hl => match us, hl with | [_], _ => rfl
theorem sc_Ratio___neg__ : FnScope ["self"] ["self"] (defScope s_Ratio___neg__) := ⟨rfl, rfl, rfl, by decide +kernel, rfl, by decide +kernel, by decide +kernel⟩
theorem Top.f_ratio_text (T : Top w K mg) : FunD K ("ratio_text" : Str) ("ratio_text" : Str) (defArgs s_ratio_text) (defBody s_ratio_text) (defScope s_ratio_text) (d_ratio_text.dvs K) (d_ratio_text.kws K) (He.ga K ("ratio_text" : Str)) (fdOf K d_ratio_text) := T.fun_ 7 rfl
theorem Top.b_ratio_text (T : Top w K mg) : Binds K (fdOf K d_ratio_text) ["value"] [] := (show FunD K ("ratio_text" : Str) ("ratio_text" : Str) (defArgs s_ratio_text) (defBody s_ratio_text) (defScope s_ratio_text) [] (d_ratio_text.kws K) (He.ga K ("ratio_text" : Str)) (fdOf K d_ratio_text) from T.f_ratio_text).bindsN fun _ _ _ _ _ _ us hl => match us, hl with | [_], _ => rfl
theorem sc_ratio_text : FnScope ["value"] ["value"] (defScope s_ratio_text) := ⟨rfl, rfl, rfl, by decide +kernel, rfl, by decide +kernel, by decide +kernel⟩
theorem Top.f_read_ratio (T : Top w K mg) : FunD K ("read_ratio" : Str) ("read_ratio" : Str) (defArgs s_read_ratio) (defBody s_read_ratio) (defScope s_read_ratio) (d_read_ratio.dvs K) (d_read_ratio.kws K) (He.ga K ("read_ratio" : Str)) (fdOf K d_read_ratio) := T.fun_ 8 rfl
theorem Top.b_read_ratio (T : Top w K mg) : Binds K (fdOf K d_read_ratio) ["line"] [] := (show FunD K ("read_ratio" : Str) ("read_ratio" : Str) (defArgs s_read_ratio) (defBody s_read_ratio) (defScope s_read_ratio) [] (d_read_ratio.kws K) (He.ga K ("read_ratio" : Str)) (fdOf K d_read_ratio) from T.f_read_ratio).bindsN fun _ _ _ _ _ _ us hl => match us, hl with | [_], _ => rfl
theorem sc_read_ratio : FnScope ["line", "top_text", "slash", "bottom_text", "top", "bottom"] ["line"] (defScope s_read_ratio) := ⟨rfl, rfl, rfl, by decide +kernel, rfl, by decide +kernel, by decide +kernel⟩
theorem Top.f__integer_text (T : Top w K mg) : FunD K ("_integer_text" : Str) ("_integer_text" : Str) (defArgs s__integer_text) (defBody s__integer_text) (defScope s__integer_text) (d__integer_text.dvs K) (d__integer_text.kws K) (He.ga K ("_integer_text" : Str)) (fdOf K d__integer_text) := T.fun_ 9 rfl
theorem Top.b__integer_text (T : Top w K mg) : Binds K (fdOf K d__integer_text) ["number"] [] := (show FunD K ("_integer_text" : Str) ("_integer_text" : Str) (defArgs s__integer_text) (defBody s__integer_text) (defScope s__integer_text) [] (d__integer_text.kws K) (He.ga K ("_integer_text" : Str)) (fdOf K d__integer_text) from T.f__integer_text).bindsN fun _ _ _ _ _ _ us hl => match us, hl with | [_], _ => rfl
theorem sc__integer_text : FnScope ["number", "sign", "rest", "chunks", "chunk"] ["number"] (defScope s__integer_text) := ⟨rfl, rfl, rfl, by decide +kernel, rfl, by decide +kernel, by decide +kernel⟩
theorem Top.f__read_integer (T : Top w K mg) : FunD K ("_read_integer" : Str) ("_read_integer" : Str) (defArgs s__read_integer) (defBody s__read_integer) (defScope s__read_integer) (d__read_integer.dvs K) (d__read_integer.kws K) (He.ga K ("_read_integer" : Str)) (fdOf K d__read_integer) := T.fun_ 10 rfl
theorem Top.b__read_integer (T : Top w K mg) : Binds K (fdOf K d__read_integer) ["text"] [] := (show FunD K ("_read_integer" : Str) ("_read_integer" : Str) (defArgs s__read_integer) (defBody s__read_integer) (defScope s__read_integer) [] (d__read_integer.kws K) (He.ga K ("_read_integer" : Str)) (fdOf K d__read_integer) from T.f__read_integer).bindsN fun _ _ _ _ _ _ us hl => match us, hl with | [_], _ => rfl
theorem sc__read_integer : FnScope ["text", "digits", "first", "number", "at"] ["text"] (defScope s__read_integer) := ⟨rfl, rfl, rfl, by decide +kernel, rfl, by decide +kernel, by decide +kernel⟩
theorem Top.f__law_stream (T : Top w K mg) : FunD K ("_law_stream" : Str) ("_law_stream" : Str) (defArgs s__law_stream) (defBody s__law_stream) (defScope s__law_stream) (d__law_stream.dvs K) (d__law_stream.kws K) (He.ga K ("_law_stream" : Str)) (fdOf K d__law_stream) := T.fun_ 11 rfl
theorem Top.b__law_stream (T : Top w K mg) : Binds K (fdOf K d__law_stream) ["script"] [] := (show FunD K ("_law_stream" : Str) ("_law_stream" : Str) (defArgs s__law_stream) (defBody s__law_stream) (defScope s__law_stream) [] (d__law_stream.kws K) (He.ga K ("_law_stream" : Str)) (fdOf K d__law_stream) from T.f__law_stream).bindsN fun _ _ _ _ _ _ us hl => match us, hl with | [_], _ => rfl
theorem sc__law_stream : FnScope ["script", "mixed", "cell"] ["script"] (defScope s__law_stream) := ⟨rfl, rfl, rfl, by decide +kernel, rfl, by decide +kernel, by decide +kernel⟩
theorem Top.f__law_draw (T : Top w K mg) : FunD K ("_law_draw" : Str) ("_law_draw" : Str) (defArgs s__law_draw) (defBody s__law_draw) (defScope s__law_draw) (d__law_draw.dvs K) (d__law_draw.kws K) (He.ga K ("_law_draw" : Str)) (fdOf K d__law_draw) := T.fun_ 12 rfl
theorem Top.b__law_draw (T : Top w K mg) : Binds K (fdOf K d__law_draw) ["stream", "many"] [] := (show FunD K ("_law_draw" : Str) ("_law_draw" : Str) (defArgs s__law_draw) (defBody s__law_draw) (defScope s__law_draw) [] (d__law_draw.kws K) (He.ga K ("_law_draw" : Str)) (fdOf K d__law_draw) from T.f__law_draw).bindsN fun _ _ _ _ _ _ us hl => match us, hl with | [_, _], _ => rfl
theorem sc__law_draw : FnScope ["stream", "many", "value"] ["stream", "many"] (defScope s__law_draw) := ⟨rfl, rfl, rfl, by decide +kernel, rfl, by decide +kernel, by decide +kernel⟩
theorem Top.f__law_pair (T : Top w K mg) : FunD K ("_law_pair" : Str) ("_law_pair" : Str) (defArgs s__law_pair) (defBody s__law_pair) (defScope s__law_pair) (d__law_pair.dvs K) (d__law_pair.kws K) (He.ga K ("_law_pair" : Str)) (fdOf K d__law_pair) := T.fun_ 13 rfl
theorem Top.b__law_pair (T : Top w K mg) : Binds K (fdOf K d__law_pair) ["n", "d"] [] := (show FunD K ("_law_pair" : Str) ("_law_pair" : Str) (defArgs s__law_pair) (defBody s__law_pair) (defScope s__law_pair) [] (d__law_pair.kws K) (He.ga K ("_law_pair" : Str)) (fdOf K d__law_pair) from T.f__law_pair).bindsN fun _ _ _ _ _ _ us hl => match us, hl with | [_, _], _ => rfl
theorem sc__law_pair : FnScope ["n", "d", "a", "b"] ["n", "d"] (defScope s__law_pair) := ⟨rfl, rfl, rfl, by decide +kernel, rfl, by decide +kernel, by decide +kernel⟩
theorem Top.f__law_is (T : Top w K mg) : FunD K ("_law_is" : Str) ("_law_is" : Str) (defArgs s__law_is) (defBody s__law_is) (defScope s__law_is) (d__law_is.dvs K) (d__law_is.kws K) (He.ga K ("_law_is" : Str)) (fdOf K d__law_is) := T.fun_ 14 rfl
theorem Top.b__law_is (T : Top w K mg) : Binds K (fdOf K d__law_is) ["value", "pair"] [] := (show FunD K ("_law_is" : Str) ("_law_is" : Str) (defArgs s__law_is) (defBody s__law_is) (defScope s__law_is) [] (d__law_is.kws K) (He.ga K ("_law_is" : Str)) (fdOf K d__law_is) from T.f__law_is).bindsN fun _ _ _ _ _ _ us hl => match us, hl with | [_, _], _ => rfl
theorem sc__law_is : FnScope ["value", "pair"] ["value", "pair"] (defScope s__law_is) := ⟨rfl, rfl, rfl, by decide +kernel, rfl, by decide +kernel, by decide +kernel⟩
theorem Top.f__law_far (T : Top w K mg) : FunD K ("_law_far" : Str) ("_law_far" : Str) (defArgs s__law_far) (defBody s__law_far) (defScope s__law_far) (d__law_far.dvs K) (d__law_far.kws K) (He.ga K ("_law_far" : Str)) (fdOf K d__law_far) := T.fun_ 15 rfl
theorem Top.b__law_far (T : Top w K mg) : Binds K (fdOf K d__law_far) ["stream"] [] := (show FunD K ("_law_far" : Str) ("_law_far" : Str) (defArgs s__law_far) (defBody s__law_far) (defScope s__law_far) [] (d__law_far.kws K) (He.ga K ("_law_far" : Str)) (fdOf K d__law_far) from T.f__law_far).bindsN fun _ _ _ _ _ _ us hl => match us, hl with | [_], _ => rfl
theorem sc__law_far : FnScope ["stream", "found", "k"] ["stream"] (defScope s__law_far) := ⟨rfl, rfl, rfl, by decide +kernel, rfl, by decide +kernel, by decide +kernel⟩
theorem Top.f__law_whole (T : Top w K mg) : FunD K ("_law_whole" : Str) ("_law_whole" : Str) (defArgs s__law_whole) (defBody s__law_whole) (defScope s__law_whole) (d__law_whole.dvs K) (d__law_whole.kws K) (He.ga K ("_law_whole" : Str)) (fdOf K d__law_whole) := T.fun_ 16 rfl
theorem Top.b__law_whole (T : Top w K mg) : Binds K (fdOf K d__law_whole) ["stream"] [] := (show FunD K ("_law_whole" : Str) ("_law_whole" : Str) (defArgs s__law_whole) (defBody s__law_whole) (defScope s__law_whole) [] (d__law_whole.kws K) (He.ga K ("_law_whole" : Str)) (fdOf K d__law_whole) from T.f__law_whole).bindsN fun _ _ _ _ _ _ us hl => match us, hl with | [_], _ => rfl
theorem sc__law_whole : FnScope ["stream", "pick"] ["stream"] (defScope s__law_whole) := ⟨rfl, rfl, rfl, by decide +kernel, rfl, by decide +kernel, by decide +kernel⟩
theorem Top.f__law_drawn_pair (T : Top w K mg) : FunD K ("_law_drawn_pair" : Str) ("_law_drawn_pair" : Str) (defArgs s__law_drawn_pair) (defBody s__law_drawn_pair) (defScope s__law_drawn_pair) (d__law_drawn_pair.dvs K) (d__law_drawn_pair.kws K) (He.ga K ("_law_drawn_pair" : Str)) (fdOf K d__law_drawn_pair) := T.fun_ 17 rfl
theorem Top.b__law_drawn_pair (T : Top w K mg) : Binds K (fdOf K d__law_drawn_pair) ["stream"] [] := (show FunD K ("_law_drawn_pair" : Str) ("_law_drawn_pair" : Str) (defArgs s__law_drawn_pair) (defBody s__law_drawn_pair) (defScope s__law_drawn_pair) [] (d__law_drawn_pair.kws K) (He.ga K ("_law_drawn_pair" : Str)) (fdOf K d__law_drawn_pair) from T.f__law_drawn_pair).bindsN fun _ _ _ _ _ _ us hl => match us, hl with | [_], _ => rfl
theorem sc__law_drawn_pair : FnScope ["stream", "d"] ["stream"] (defScope s__law_drawn_pair) := ⟨rfl, rfl, rfl, by decide +kernel, rfl, by decide +kernel, by decide +kernel⟩
theorem Top.f__law_told (T : Top w K mg) : FunD K ("_law_told" : Str) ("_law_told" : Str) (defArgs s__law_told) (defBody s__law_told) (defScope s__law_told) (d__law_told.dvs K) (d__law_told.kws K) (He.ga K ("_law_told" : Str)) (fdOf K d__law_told) := T.fun_ 18 rfl
theorem Top.b__law_told (T : Top w K mg) : Binds K (fdOf K d__law_told) ["line"] [] := (show FunD K ("_law_told" : Str) ("_law_told" : Str) (defArgs s__law_told) (defBody s__law_told) (defScope s__law_told) [] (d__law_told.kws K) (He.ga K ("_law_told" : Str)) (fdOf K d__law_told) from T.f__law_told).bindsN fun _ _ _ _ _ _ us hl => match us, hl with | [_], _ => rfl
theorem sc__law_told : FnScope ["line", "found", "e"] ["line"] (defScope s__law_told) := ⟨rfl, rfl, rfl, by decide +kernel, rfl, by decide +kernel, by decide +kernel⟩
theorem Top.f__law_plain (T : Top w K mg) : FunD K ("_law_plain" : Str) ("_law_plain" : Str) (defArgs s__law_plain) (defBody s__law_plain) (defScope s__law_plain) (d__law_plain.dvs K) (d__law_plain.kws K) (He.ga K ("_law_plain" : Str)) (fdOf K d__law_plain) := T.fun_ 19 rfl
theorem Top.b__law_plain (T : Top w K mg) : Binds K (fdOf K d__law_plain) ["line"] [] := (show FunD K ("_law_plain" : Str) ("_law_plain" : Str) (defArgs s__law_plain) (defBody s__law_plain) (defScope s__law_plain) [] (d__law_plain.kws K) (He.ga K ("_law_plain" : Str)) (fdOf K d__law_plain) from T.f__law_plain).bindsN fun _ _ _ _ _ _ us hl => match us, hl with | [_], _ => rfl
theorem sc__law_plain : FnScope ["line", "sign", "value"] ["line"] (defScope s__law_plain) := ⟨rfl, rfl, rfl, by decide +kernel, rfl, by decide +kernel, by decide +kernel⟩
theorem Top.f__law_read (T : Top w K mg) : FunD K ("_law_read" : Str) ("_law_read" : Str) (defArgs s__law_read) (defBody s__law_read) (defScope s__law_read) (d__law_read.dvs K) (d__law_read.kws K) (He.ga K ("_law_read" : Str)) (fdOf K d__law_read) := T.fun_ 20 rfl
theorem Top.b__law_read (T : Top w K mg) : Binds K (fdOf K d__law_read) ["line"] [] := (show FunD K ("_law_read" : Str) ("_law_read" : Str) (defArgs s__law_read) (defBody s__law_read) (defScope s__law_read) [] (d__law_read.kws K) (He.ga K ("_law_read" : Str)) (fdOf K d__law_read) from T.f__law_read).bindsN fun _ _ _ _ _ _ us hl => match us, hl with | [_], _ => rfl
theorem sc__law_read : FnScope ["line", "sign", "parts", "n", "d"] ["line"] (defScope s__law_read) := ⟨rfl, rfl, rfl, by decide +kernel, rfl, by decide +kernel, by decide +kernel⟩
theorem Top.f__law_of_any_length (T : Top w K mg) : FunD K ("_law_of_any_length" : Str) ("_law_of_any_length" : Str) (defArgs s__law_of_any_length) (defBody s__law_of_any_length) (defScope s__law_of_any_length) (d__law_of_any_length.dvs K) (d__law_of_any_length.kws K) (He.ga K ("_law_of_any_length" : Str)) (fdOf K d__law_of_any_length) := T.fun_ 21 rfl
theorem Top.b__law_of_any_length (T : Top w K mg) : Binds K (fdOf K d__law_of_any_length) ["stream"] [] := (show FunD K ("_law_of_any_length" : Str) ("_law_of_any_length" : Str) (defArgs s__law_of_any_length) (defBody s__law_of_any_length) (defScope s__law_of_any_length) [] (d__law_of_any_length.kws K) (He.ga K ("_law_of_any_length" : Str)) (fdOf K d__law_of_any_length) from T.f__law_of_any_length).bindsN fun _ _ _ _ _ _ us hl => match us, hl with | [_], _ => rfl
theorem sc__law_of_any_length : FnScope ["stream", "line", "k", "value", "more", "other", "found"] ["stream"] (defScope s__law_of_any_length) := ⟨rfl, rfl, rfl, by decide +kernel, rfl, by decide +kernel, by decide +kernel⟩
theorem Top.f_law (T : Top w K mg) : FunD K ("law" : Str) ("law" : Str) (defArgs s_law) (defBody s_law) (defScope s_law) (d_law.dvs K) (d_law.kws K) (He.ga K ("law" : Str)) (fdOf K d_law) := T.fun_ 22 rfl
theorem Top.b_law (T : Top w K mg) : Binds K (fdOf K d_law) ["script"] [] := (show FunD K ("law" : Str) ("law" : Str) (defArgs s_law) (defBody s_law) (defScope s_law) [] (d_law.kws K) (He.ga K ("law" : Str)) (fdOf K d_law) from T.f_law).bindsN fun _ _ _ _ _ _ us hl => match us, hl with | [_], _ => rfl
theorem sc_law : FnScope ["script", "stream", "pair", "line", "at", "sign", "pick", "due", "actual"] ["script"] (defScope s_law) := ⟨rfl, rfl, rfl, by decide +kernel, rfl, by decide +kernel, by decide +kernel⟩
end
section
variable {P : Program} {w : World} {K : PySem.W.Frag} {mg : Str → Option Value} {base : Heap}
/-! ### BadText(at) -/
def okIx : V → Prop := fun v => ∃ i : Int, v = .int i ∧ i.natAbs.log2 < 1920
theorem ok_BadText___init__ (T : Top w K mg) : FnOk P w K mg base CX0 1 (He.ma K (He.ga K ("BadText" : Str)) ("__init__" : Str)) (fdOf K d_BadText___init__) ["self", "at"] (spExc K (He.ga K "BadText") "at" okIx) := by
  refine (T.f_BadText___init__).ok sc_BadText___init__ (fun vs H Q E h => ?_) (fun cdv A outer s H vs Q E hr h => ?_)
  · obtain ⟨a, v, rfl, _⟩ := h
    rfl
  · obtain ⟨a, v, rfl, ha, ⟨i, rfl, hi⟩, k⟩ := h
    refine ⟨_, PSs.nox (pss_cons (ps_expr (pe_lwinit T.x_lw_LinkworkError rfl T.g_LinkworkError (pa_cons (pv 0) (pa_cons (pe_joined (.cons pe_str (.cons (pe_fmt (pv 1)) (.cons pe_str .nil)))) pa_nil))))
    (pss_one (ps_ost (pv 0) (pv 1)))), ?_⟩
    walk_at "go"
    have hl := int_text_length_le (k := 1920) (by decide) hi
    have l1 : (Str.empty ++ Str.ofString "the text cannot be read from the index " ++ toString i).length ≤ 2000 := by
      rw [PySem.Str.length_append, PySem.Str.length_append]
      have e0 : (Str.ofString (toString i)).length = (toString i).length := PySem.ofString_length _
      have e1 : Str.empty.length = 0 := by decide +kernel
      have e2 : (Str.ofString "the text cannot be read from the index ").length = 39 := by decide +kernel
      omega
    refine .inr ⟨i, rfl, hi, _, rfl, Nat.le_trans l1 (by rw [sizeLine_eq]; decide), ?_⟩
    refine ⟨_, rfl, ?_, ?_⟩
    · rw [PySem.Str.length_append]
      have e2 : (Str.ofString " on").length = 3 := by decide +kernel
      rw [e2, sizeLine_eq]
      omega
    · refine ⟨a, _, _, rfl, by show 1 ≤ 1000; decide, (oexB_ok T.x_oex_BadText).1, ha, ?_⟩
      refine ⟨_, rfl, _, rfl, a, _, rfl, (oexB_ok T.x_oex_BadText).1, He.eqO_ok T.x_xf_BadText_at, .inl ⟨ha, fun dx nd ne => ?_⟩⟩
      exact k dx nd ne
end
section
theorem str_len (x : Str) : x.length = x.cps.toList.length := by simp [Str.length]
theorem str_fits {x : Str} (h : x.cps.toList.length ≤ 100000) : x.length ≤ sizeLine := by rw [str_len]; exact Nat.le_trans h (by rw [sizeLine_eq]; decide)
end
section
open NumText TL
/-! ### decimal texts, as lists of codes -/
theorem val_acc : ∀ (b : List Nat) (k : Nat), b.foldl (fun acc c => acc * 10 + (c - 48)) k = k * 10 ^ b.length + digitsVal b
  | [], k => by show k = k * 10 ^ 0 + 0; omega
  | c :: b, k => by
    have h0 := val_acc b (0 * 10 + (c - 48))
    have h1 := val_acc b (k * 10 + (c - 48))
    unfold digitsVal at *
    rw [List.foldl_cons, List.foldl_cons, h1, h0, List.length_cons, Nat.pow_succ, Nat.zero_mul, Nat.zero_add]
    rw [Nat.add_mul, Nat.mul_assoc, Nat.mul_comm 10 (10 ^ b.length), Nat.add_assoc]
theorem val_app (a b : List Nat) : digitsVal (a ++ b) = digitsVal a * 10 ^ b.length + digitsVal b := by
  have h := val_acc b (digitsVal a)
  unfold digitsVal at *
  rw [List.foldl_append, h]
theorem val_one (c : Nat) : digitsVal [c] = c - 48 := by show 0 * 10 + (c - 48) = _; omega
theorem val_lt : ∀ {ds : List Nat}, AllDigits ds → digitsVal ds < 10 ^ ds.length
  | [], _ => by decide
  | c :: ds, h => by
    have ih := val_lt h.tail
    have hc := h.head
    have e := val_app [c] ds
    rw [val_one] at e
    show digitsVal ([c] ++ ds) < 10 ^ (ds.length + 1)
    rw [e, Nat.pow_succ]
    have : (c - 48) * 10 ^ ds.length ≤ 9 * 10 ^ ds.length := Nat.mul_le_mul_right _ (by omega)
    omega
theorem all_app {a b : List Nat} (h : AllDigits a) (g : AllDigits b) : AllDigits (a ++ b) := fun c hc => (List.mem_append.mp hc).elim (h c) (g c)
theorem all_left {a b : List Nat} (h : AllDigits (a ++ b)) : AllDigits a := fun c hc => h c (List.mem_append_left _ hc)
theorem all_right {a b : List Nat} (h : AllDigits (a ++ b)) : AllDigits b := fun c hc => h c (List.mem_append_right _ hc)
/-- no zero in front -/
def NoLead (ds : List Nat) : Prop := ds ≠ [] ∧ (ds.head? = some 48 → ds = [48])
theorem val_pos {ds : List Nat} (h : AllDigits ds) (n : NoLead ds) (h2 : 2 ≤ ds.length) : 10 ^ (ds.length - 1) ≤ digitsVal ds := by
  cases ds with
  | nil => exact absurd rfl n.1
  | cons c r =>
    have hc := h.head
    have e := val_app [c] r
    rw [val_one] at e
    have nc : c ≠ 48 := fun t => by
      have := n.2 (by rw [t]; rfl)
      rw [this] at h2
      exact absurd h2 (by decide)
    show 10 ^ (r.length + 1 - 1) ≤ digitsVal ([c] ++ r)
    rw [e, Nat.add_sub_cancel]
    have : 1 * 10 ^ r.length ≤ (c - 48) * 10 ^ r.length := Nat.mul_le_mul_right _ (by omega)
    omega
theorem snoc_of {ds : List Nat} (h : ds ≠ []) : ∃ i c, ds = i ++ [c] := ⟨ds.dropLast, ds.getLast h, (List.dropLast_concat_getLast h).symm⟩
/-- the digits of a number are its text -/
theorem num_uniq : ∀ (n : Nat) {ds : List Nat}, ds.length = n → AllDigits ds → NoLead ds → ds = numL (digitsVal ds) := by
  intro n
  induction n with
  | zero =>
    intro ds hl _ nl
    exact absurd (List.eq_nil_of_length_eq_zero hl) nl.1
  | succ n ih =>
    intro ds hl h nl
    obtain ⟨i, c, rfl⟩ := snoc_of nl.1
    have hc : 48 ≤ c ∧ c ≤ 57 := h c (by simp)
    have hi := all_left h
    rw [List.length_append, List.length_singleton] at hl
    by_cases e : i = []
    · subst e
      rw [List.nil_append, val_one, numL_lt (by omega), show 48 + (c - 48) = c by omega]
    · have nli : NoLead i := ⟨e, fun t => by
        have := nl.2 (by rw [List.head?_append, t]; rfl)
        have l2 := congrArg List.length this
        rw [List.length_append, List.length_singleton, List.length_singleton] at l2
        exact absurd (List.eq_nil_of_length_eq_zero (by omega)) e⟩
      have nh : i.head? ≠ some 48 := fun t => by
        have := nl.2 (by rw [List.head?_append, t]; rfl)
        have l2 := congrArg List.length this
        rw [List.length_append, List.length_singleton, List.length_singleton] at l2
        exact e (List.eq_nil_of_length_eq_zero (by omega))
      have iv : 1 ≤ digitsVal i := by
        by_cases l1 : 2 ≤ i.length
        · have := val_pos hi nli l1
          have : 0 < 10 ^ (i.length - 1) := Nat.pow_pos (by decide)
          omega
        · cases i with
          | nil => exact absurd rfl e
          | cons d r =>
            have hr : r = [] := List.eq_nil_of_length_eq_zero (by simp only [List.length_cons] at l1; omega)
            subst hr
            have hd := hi.head
            rw [val_one]
            have : d ≠ 48 := fun t => nh (by rw [t]; rfl)
            omega
      have va := val_app i [c]
      rw [val_one, List.length_singleton, Nat.pow_one] at va
      have ei := ih (by omega) hi nli
      rw [va, numL_step (by omega), show (digitsVal i * 10 + (c - 48)) / 10 = digitsVal i by omega, show (digitsVal i * 10 + (c - 48)) % 10 = c - 48 by omega, ← ei, show 48 + (c - 48) = c by omega]
theorem numL_head : ∀ (n : Nat), 1 ≤ n → (numL n).head? ≠ some 48 := by
  intro n
  induction n using Nat.strongRecOn with
  | _ n ih =>
    intro h
    by_cases h10 : n < 10
    · rw [numL_lt h10]
      intro t
      have := Option.some.inj t
      omega
    · rw [numL_step (by omega), List.head?_append]
      have := ih (n / 10) (by omega) (by omega)
      cases e : (numL (n / 10)).head? with
      | none => exact absurd (List.head?_eq_none_iff.mp e) (numL_ne _)
      | some d =>
        rw [e] at this
        exact this
theorem numL_nolead (n : Nat) : NoLead (numL n) := by
  refine ⟨numL_ne n, fun t => ?_⟩
  by_cases h : 1 ≤ n
  · exact absurd t (numL_head n h)
  · have : n = 0 := by omega
    rw [this, numL_lt (by decide)]
/-- filled up to 64 -/
def padL (n : Nat) : List Nat := List.replicate (64 - (numL n).length) 48 ++ numL n
theorem zeros_val (k : Nat) : digitsVal (List.replicate k 48) = 0 := by
  induction k with
  | zero => rfl
  | succ k ih =>
    have e := val_app [48] (List.replicate k 48)
    rw [val_one, ih] at e
    rw [List.replicate_succ]
    show digitsVal ([48] ++ List.replicate k 48) = 0
    rw [e]
    omega
theorem zeros_all (k : Nat) : AllDigits (List.replicate k 48) := fun c hc => by
  rw [(List.mem_replicate.mp hc).2]
  decide
theorem pad_val (n : Nat) : digitsVal (padL n) = n := by
  unfold padL
  rw [val_app, zeros_val, numL_val]
  omega
theorem pad_all (n : Nat) : AllDigits (padL n) := all_app (zeros_all _) (numL_digits n)
theorem pad_len {n : Nat} (h : n < 10 ^ 64) : (padL n).length = 64 := by
  have := numL_len (k := 64) (by decide) h
  unfold padL
  rw [List.length_append, List.length_replicate]
  omega
theorem zfill_num {n : Nat} (h : n < 10 ^ 64) : (Txt.zfill (Str.ofString (toString (n : Int))) 64).cps.toList = padL n := by
  have e : (Str.ofString (toString (n : Int))).cps.toList = numL n := tl_num n
  have l := numL_len (k := 64) (by decide) h
  have ll := str_len (Str.ofString (toString (n : Int)))
  rw [e] at ll
  unfold Txt.zfill
  split
  · rename_i h1
    rw [e]
    unfold padL
    rw [show 64 - (numL n).length = 0 by omega]
    rfl
  · unfold zfilled
    have h0 : (Str.ofString (toString (n : Int))).cps[0]? = (numL n)[0]? := by rw [← e, Array.getElem?_toList]
    have nd : ∀ c, (numL n)[0]? = some c → 48 ≤ c ∧ c ≤ 57 := fun c hc => numL_digits n c (List.mem_of_getElem? hc)
    have pd : (Builtin.Str.padded (Str.ofString (toString (n : Int))) (Int.toNat 64 - (Str.ofString (toString (n : Int))).length) 0 48).cps.toList = padL n := by
      unfold Builtin.Str.padded
      simp only [Array.toList_append, Array.toList_replicate, e, List.replicate_zero, List.append_nil]
      rw [ll]
      rfl
    rw [h0]
    split
    · rename_i hc
      exact absurd (nd 43 hc).1 (by decide)
    · rename_i hc
      exact absurd (nd 45 hc).1 (by decide)
    · exact pd
/-- the text of an int -/
def intL (n : Int) : List Nat := if n < 0 then 45 :: numL n.natAbs else numL n.natAbs
theorem tl_int (n : Int) : (Str.ofString (toString n)).cps.toList = intL n := by
  unfold intL
  cases n with
  | ofNat k =>
    rw [if_neg (by simp)]
    exact tl_num k
  | negSucc k =>
    rw [if_pos (by omega)]
    have e : (Str.ofString (toString ((k + 1 : Nat) : Int))).cps.toList = numL (k + 1) := tl_num (k + 1)
    have e1 : toString (Int.negSucc k) = "-" ++ toString ((k + 1 : Nat) : Int) := rfl
    have e2 : ∀ a b : String, (Str.ofString (a ++ b)).cps.toList = (Str.ofString a).cps.toList ++ (Str.ofString b).cps.toList := by
      intro a b
      rw [Str.ofString_eq_toList, Str.ofString_eq_toList, Str.ofString_eq_toList]
      simp
    rw [e1, e2, e]
    rfl
end
section
open NumText TL
variable {P : Program} {w : World} {K : PySem.W.Frag} {mg : Str → Option Value} {base : Heap}
/-! ### the text of an int, by chunks of 64 digits -/
def zfS (c : Nat) : Str := Txt.zfill (Str.ofString (toString (c : Int))) 64
def zf (c : Nat) : V := .str (zfS c)
/-- the digits behind the first chunk, the latest one in front -/
def restL (rs : List Nat) : List Nat := (rs.map padL).flatten
theorem restL_cons (rs : List Nat) (c : Nat) : restL (c :: rs) = padL c ++ restL rs := rfl
theorem restL_len : ∀ (rs : List Nat), (∀ c ∈ rs, c < 10 ^ 64) → (restL rs).length = 64 * rs.length
  | [], _ => rfl
  | c :: rs, h => by
    rw [restL_cons, List.length_append, pad_len (h c (List.mem_cons_self ..)), restL_len rs (fun d hd => h d (List.mem_cons_of_mem _ hd)), List.length_cons]
    omega
theorem restL_all : ∀ (rs : List Nat), AllDigits (restL rs)
  | [] => fun c hc => nomatch hc
  | c :: rs => by
    rw [restL_cons]
    exact all_app (pad_all c) (restL_all rs)
theorem restL_eq {rest : Nat} {rs : List Nat} (h0 : rs ≠ [] → 1 ≤ rest) : numL rest ++ restL rs = numL (rest * 10 ^ (restL rs).length + digitsVal (restL rs)) := by
  have e := val_app (numL rest) (restL rs)
  rw [numL_val] at e
  rw [← e]
  by_cases hr : rs = []
  · subst hr
    show numL rest ++ [] = numL (digitsVal (numL rest ++ []))
    rw [List.append_nil, numL_val]
  · refine num_uniq _ rfl (all_app (numL_digits _) (restL_all rs)) ⟨fun t => numL_ne rest (List.append_eq_nil_iff.mp t).1, fun t => ?_⟩
    have hd := numL_head rest (h0 hr)
    rw [List.head?_append] at t
    cases q : (numL rest).head? with
    | none => exact absurd (List.head?_eq_none_iff.mp q) (numL_ne _)
    | some d =>
      rw [q] at t hd
      exact absurd t hd
theorem join_empty : ∀ (ys : List Str), (Txt.join (Str.ofString "") ys).cps.toList = (ys.map fun y => y.cps.toList).flatten := by
  intro ys
  rw [join_eq]
  have e0 : (Str.ofString "").cps.toList = [] := by decide +kernel
  induction ys with
  | nil => rfl
  | cons y ys ih =>
    cases ys with
    | nil => simp [Str.join]
    | cons z r =>
      show (y ++ Str.ofString "" ++ Str.join (Str.ofString "") (z :: r)).cps.toList = _
      rw [Str.cps_append, Str.cps_append, Array.toList_append, Array.toList_append, e0, ih, List.append_nil]
      rfl
theorem chunk_lit : (10000000000000000000000000000000000000000000000000000000000000000 : Int) = ((10 ^ 64 : Nat) : Int) := by decide +kernel
theorem cdiv_chunk (i : Int) : CDivP i ((10 ^ 64 : Nat) : Int) := ⟨by decide +kernel, PyProof.noPylong_of_log2 (by decide +kernel)⟩
theorem log_chunk {c : Nat} (h : c < 10 ^ 64) : ((c : Int)).natAbs.log2 < 1920 := by
  have h2 : (c : Int).natAbs < 2 ^ 220 := Nat.lt_trans h (by decide +kernel)
  exact Nat.lt_of_lt_of_le (PySem.Flt.log2_lt_of (by decide) h2) (by decide)
def spIText : Sp := fun vs H Q _ => ∃ n : Int, vs = [.int n] ∧ n.natAbs < 10 ^ 6400 ∧ ∀ y H', Same H H' → y.cps.toList = intL n → Q (.str y) H'
theorem ok__integer_text (T : Top w K mg) : FnOk P w K mg base CX0 1 (He.ga K ("_integer_text" : Str)) (fdOf K d__integer_text) ["number"] spIText := by
  refine (T.f__integer_text).ok sc__integer_text (fun vs H Q E h => ?_) (fun cdv A outer s H vs Q E hr h => ?_)
  · obtain ⟨n, rfl, _⟩ := h
    rfl
  · obtain ⟨n, rfl, hn, k⟩ := h
    refine ⟨_, PSs.nox (C8.pss_cut (ps_set (i := 1) sc__integer_text.nd rfl (Or.inl rfl) (pe_ifExp (pt_cmpR op_lt (pv 0) pe_int (nomark _)) pe_str pe_str))
    (pss_cons (ps_set (i := 2) sc__integer_text.nd rfl (Or.inl rfl) (pe_callB call_abs (by rfl) T.n_abs (by decide +kernel) (pa_cons (pv 0) pa_nil)))
    (pss_cons (ps_set (i := 3) sc__integer_text.nd rfl (Or.inl rfl) (pe_lst pa_nil))
    (pss_cons (ps_while PassesOwn.never (pt_cmpR op_ge (pv 2) (pe_globE rfl T.i_CHUNK) (nomark _))
    (pss_cons (ps_asg (pe_callB call_divmodW (by rfl) T.n_divmod (by decide +kernel) (pa_cons (pv 2) (pa_cons (pe_globE rfl T.i_CHUNK) pa_nil))) (pg_tup (by rfl) (pgs_cons (pg_name (i := 2) sc__integer_text.nd rfl (Or.inl rfl)) (pgs_cons (pg_name (i := 4) sc__integer_text.nd rfl (Or.inl rfl)) pgs_nil))))
    (pss_one (ps_expr (pe_bm PySem.F.plainAttrs_list PySem.F.slot_list_append PySem.F.type_list_append mt_append (pv 3) (pa_cons (pe_bm PySem.F.plainAttrs_str PySem.F.slot_str_zfill PySem.F.type_str_zfill mt_zfill (pe_callTy call_str_int (by rfl) T.n_str (by decide +kernel) (pa_cons (pv 4) pa_nil)) (pa_cons (pe_globE rfl T.i_CHUNK_DIGITS) pa_nil)) pa_nil))))))
    (pss_cons (ps_expr (pe_bm PySem.F.plainAttrs_list PySem.F.slot_list_append PySem.F.type_list_append mt_append (pv 3) (pa_cons (pe_callTy call_str_int (by rfl) T.n_str (by decide +kernel) (pa_cons (pv 2) pa_nil)) pa_nil)))
    (pss_one (ps_ret (pe_op op_add_str (pv 1) (pe_bm PySem.F.plainAttrs_str PySem.F.slot_str_join PySem.F.type_str_join mt_join pe_str (pa_cons (pe_revL (pv 3)) pa_nil)))))))))), ?_⟩
    walk_at "go"
    refine r_cut (fun σ H' => H' = H ∧ ∃ sg : Str, σ = [some (.int n), some (.str sg), none, none, none] ∧ sg.cps.toList = (if n < 0 then [45] else [])) ?_ ?_
    · walk_at "go"
      refine ite_d (fun c => ?_) (fun c => ?_)
      · rw [if_pos c]
        exact ⟨rfl, _, rfl, by decide +kernel⟩
      · rw [if_neg c]
        exact ⟨rfl, _, rfl, by decide +kernel⟩
    · rintro σ H' ⟨rfl, sg, rfl, hsg⟩
      walk_at "go"
      intro l hl
      walk_at "go"
      have ea : (if n < 0 then -n else n) = ((n.natAbs : Nat) : Int) := by split <;> omega
      rw [ea]
      refine r_while (fun m σ H2 => Same H' H2 ∧ ∃ (rest : Nat) (rs : List Nat) (cv : Option V), σ = [some (.int n), some (.str sg), some (.int (rest : Int)), some (.ref l), cv] ∧ H2 l = some (.lst (rs.reverse.map zf)) ∧ n.natAbs = rest * 10 ^ (64 * rs.length) + digitsVal (restL rs) ∧ (rs ≠ [] → 1 ≤ rest) ∧ (∀ c ∈ rs, c < 10 ^ 64) ∧ m = rest) n.natAbs
        ⟨same_new hl, n.natAbs, [], _, rfl, upd_same, by show n.natAbs = n.natAbs * 10 ^ 0 + 0; omega, fun t => absurd rfl t, fun c hc => (nomatch hc), rfl⟩ ?_
      rintro m σ H2 ⟨e1, rest, rs, cv, rfl, hl2, hv, h1, hc, rfl⟩
      have few : rs ≠ [] → rs.length ≤ 100 := by
        intro t
        have r1 := h1 t
        have p1 : 10 ^ (64 * rs.length) ≤ n.natAbs := by
          rw [hv]
          have : 1 * 10 ^ (64 * rs.length) ≤ m * 10 ^ (64 * rs.length) := Nat.mul_le_mul_right _ r1
          omega
        have p2 : 10 ^ (64 * rs.length) < 10 ^ 6400 := Nat.lt_of_le_of_lt p1 hn
        have := (Nat.pow_lt_pow_iff_right (by decide)).mp p2
        omega
      have few : rs.length ≤ 100 := by
        by_cases t : rs = []
        · rw [t]
          exact Nat.zero_le _
        · exact few t
      walk_at "go"
      rw [chunk_lit]
      refine ite_d (fun c => ?_) (fun c => ?_)
      · have c : 10 ^ 64 ≤ m := by
          have c' := c
          exact Int.ofNat_le.mp c'
        have c0 : m % 10 ^ 64 < 10 ^ 64 := Nat.mod_lt m (Nat.pow_pos (by decide))
        have c1 : 1 ≤ m / 10 ^ 64 := Nat.div_pos c (Nat.pow_pos (by decide))
        have c2 : m = (m / 10 ^ 64) * 10 ^ 64 + m % 10 ^ 64 := by
          have := Nat.div_add_mod m (10 ^ 64)
          rw [Nat.mul_comm] at this
          exact this.symm
        have c3 : m / 10 ^ 64 < m := Nat.div_lt_self (by omega) (by decide)
        refine ⟨_, fun _ _ z => z, ?_⟩
        walk_at "go"
        refine ⟨cdiv_chunk _, fun p hp => ?_⟩
        refine ⟨p, _, rfl, SqT.of upd_same, rfl, ?_⟩
        have s1 : Same H2 (upd H2 p (.tup [.int ((m : Int) / ((10 ^ 64 : Nat) : Int)), .int ((m : Int) % ((10 ^ 64 : Nat) : Int))])) := same_new hp
        have e3 : (m : Int) / ((10 ^ 64 : Nat) : Int) = ((m / 10 ^ 64 : Nat) : Int) := rfl
        have e4 : (m : Int) % ((10 ^ 64 : Nat) : Int) = ((m % 10 ^ 64 : Nat) : Int) := rfl
        rw [e3, e4] at s1 ⊢
        generalize m / 10 ^ 64 = q at *
        generalize m % 10 ^ 64 = r at *
        generalize hH3 : upd H2 p (.tup [.int (q : Int), .int (r : Int)]) = H3 at *
        have hl3 := s1 _ _ hl2
        walk_at "go"
        refine ⟨.inl ⟨rfl, _, SqL.of hl3⟩, ?_⟩
        walk_at "go"
        refine ⟨log_chunk c0, ?_⟩
        walk_at "go"
        refine ⟨rfl, ?_⟩
        walk_at "go"
        refine ⟨l, _, _, rfl, rfl, hl3, by rw [List.length_map, List.length_reverse, sizeLine_eq]; omega, ?_⟩
        refine ⟨q, c3, ?_, q, r :: rs, _, rfl, ?_, ?_, fun _ => c1, ?_, rfl⟩
        · intro b u hb
          rw [upd_ne (ne_of_none hb hl)]
          exact s1 _ _ (e1 _ _ hb)
        · rw [upd_same, List.reverse_cons, List.map_append]
          rfl
        · rw [hv, c2, restL_cons, val_app, pad_val, restL_len rs hc, List.length_cons, Nat.mul_add, Nat.pow_add, Nat.add_mul, Nat.add_assoc, Nat.mul_one, Nat.mul_assoc, Nat.mul_comm (10 ^ 64) (10 ^ (64 * rs.length))]
        · intro d hd
          rcases List.mem_cons.mp hd with hd | hd
          · rw [hd]
            exact c0
          · exact hc d hd
      · have c : m < 10 ^ 64 := by
          refine Nat.not_le.mp fun t => c ?_
          exact Int.ofNat_le.mpr t
        walk_at "go"
        refine ⟨.inl ⟨rfl, _, SqL.of hl2⟩, ?_⟩
        walk_at "go"
        refine ⟨log_chunk c, ?_⟩
        walk_at "go"
        refine ⟨l, _, _, rfl, rfl, hl2, by rw [List.length_map, List.length_reverse, sizeLine_eq]; omega, ?_⟩
        walk_at "go"
        refine ⟨rfl, ?_⟩
        refine ⟨_, rfl, l, _, rfl, SqL.of upd_same, fun p hp => ?_⟩
        have rev : (List.map zf rs.reverse ++ [V.str (Str.ofString (toString (m : Int)))]).reverse = (Str.ofString (toString (m : Int)) :: rs.map zfS).map V.str := by
          rw [List.reverse_append, List.map_cons, List.map_map, ← List.map_reverse, List.reverse_reverse]
          rfl
        rw [rev]
        have sm : ∀ (rs : List Nat), (∀ c ∈ rs, c < 10 ^ 64) → ((rs.map zfS).map (fun y => y.length)).sum = 64 * rs.length := by
          intro rs
          induction rs with
          | nil => intro _; rfl
          | cons c rs ih =>
            intro h
            have hc0 := h c (List.mem_cons_self ..)
            rw [List.map_cons, List.map_cons, List.sum_cons, ih (fun d hd => h d (List.mem_cons_of_mem _ hd)), str_len, show (zfS c).cps.toList = padL c from zfill_num hc0, pad_len hc0, List.length_cons]
            omega
        have jn : (Txt.join (Str.ofString "") (Str.ofString (toString (m : Int)) :: rs.map zfS)).cps.toList = numL m ++ restL rs := by
          have tm : (Str.ofString (toString (m : Int))).cps.toList = numL m := tl_num m
          rw [join_empty, List.map_cons, List.flatten_cons, tm]
          refine congrArg (fun z => numL m ++ z) ?_
          unfold restL
          refine congrArg List.flatten ?_
          rw [List.map_map]
          refine List.map_congr_left fun c h => ?_
          exact zfill_num (hc c h)
        have lm : (Str.ofString (toString (m : Int))).length ≤ 64 := by
          rw [str_len, show (Str.ofString (toString (m : Int))).cps.toList = numL m from tl_num m]
          exact numL_len (by decide) c
        have l0 : (Str.ofString "").length = 0 := by decide +kernel
        refine ⟨_, p, _, rfl, rfl, .inl (SqL.of upd_same), ?_, ?_⟩
        · rw [List.map_cons, List.sum_cons, sm rs hc, l0]
          omega
        · have lj := str_len (Txt.join (Str.ofString "") (Str.ofString (toString (m : Int)) :: rs.map zfS))
          rw [jn, List.length_append, restL_len rs hc] at lj
          have ln := numL_len (n := m) (k := 64) (by decide) c
          have ls : sg.length ≤ 1 := by
            rw [str_len, hsg]
            split <;> decide
          refine ⟨sg, _, rfl, rfl, by rw [sizeLine_eq]; omega, ?_⟩
          refine k _ _ ?_ ?_
          · intro b u hb
            have hb2 := e1 _ _ hb
            have nl : b ≠ l := ne_of_none hb hl
            have h3 : (upd H2 l (HO.lst (List.map zf rs.reverse ++ [V.str (Str.ofString (toString (m : Int)))]))) b = some u := by rw [upd_ne nl]; exact hb2
            rw [upd_ne (ne_of_none h3 hp)]
            exact h3
          · rw [Str.cps_append, Array.toList_append, jn, hsg, restL_eq h1, restL_len rs hc, ← hv]
            unfold intL
            split <;> rfl
end
section
open NumText TL
variable {P : Program} {w : World} {K : PySem.W.Frag} {mg : Str → Option Value} {base : Heap}
/-! ### reading an int -/
def isDg (c : Nat) : Bool := decide (48 ≤ c) && decide (c ≤ 57)
theorem dg_all {ds : List Nat} : ds.all isDg = true ↔ AllDigits ds := by
  unfold AllDigits
  rw [List.all_eq_true]
  unfold isDg
  simp only [Bool.and_eq_true, decide_eq_true_eq]
theorem ascii_dg : ∀ c : Fin 128, Unicode.isDigit c.val = isDg c.val := by decide +kernel
theorem dig_test (d : Str) : (Txt.isascii d && Txt.isdigit d) = (!d.cps.toList.isEmpty && d.cps.toList.all isDg) := by
  have e1 : Txt.isascii d = d.cps.toList.all (fun c => decide (c < 128)) := by
    unfold Txt.isascii
    rw [← Array.all_toList]
  have e2 : Txt.isdigit d = (!d.cps.toList.isEmpty && d.cps.toList.all Unicode.isDigit) := by
    unfold Txt.isdigit
    rw [← Array.all_toList, str_len]
    cases d.cps.toList <;> simp
  rw [e1, e2]
  generalize d.cps.toList = l
  cases l with
  | nil => rfl
  | cons c r =>
    have key : ∀ l : List Nat, (l.all (fun c => decide (c < 128)) && l.all Unicode.isDigit) = l.all isDg := by
      intro l
      induction l with
      | nil => rfl
      | cons c r ih =>
        rw [List.all_cons, List.all_cons, List.all_cons, ← ih]
        by_cases h : c < 128
        · have := ascii_dg ⟨c, h⟩
          have this : Unicode.isDigit c = isDg c := this
          rw [this, decide_eq_true h]
          cases isDg c <;> cases r.all (fun c => decide (c < 128)) <;> rfl
        · have : isDg c = false := by
            unfold isDg
            rw [Bool.and_eq_false_iff, decide_eq_false_iff_not, decide_eq_false_iff_not]
            omega
          rw [this, decide_eq_false h]
          rfl
    rw [← key]
    rfl
/-- without a sign in front -/
def unsign (T : List Nat) : List Nat := if T.head? = some 45 then T.tail else T
theorem minus_off (x : Str) : (Txt.removeprefix x (Str.ofString "-")).cps.toList = unsign x.cps.toList := by
  have em : Str.ofString "-" = ⟨#[45]⟩ := by decide +kernel
  have el := str_len x
  rw [em]
  unfold Txt.removeprefix unsign
  by_cases h : x.cps.toList.head? = some 45
  · have h0 : x.cps.toList[0]? = some 45 := by rw [← List.head?_eq_getElem?]; exact h
    have s := ((PySem.StrLaws.subAt_one x 45 0).mpr h0).2
    rw [if_pos s, if_pos h]
    have hl : 0 < x.cps.toList.length := (List.getElem?_eq_some_iff.mp h0).1
    show (if x.length - (⟨#[45]⟩ : Str).length == x.length then x else Builtin.Str.strSub x (⟨#[45]⟩ : Str).length x.length).cps.toList = _
    have e1 : (⟨#[45]⟩ : Str).length = 1 := rfl
    rw [e1, if_neg (by rw [beq_iff_eq]; omega)]
    unfold Builtin.Str.strSub
    cases hx : x.cps.toList with
    | nil => rw [hx] at hl; exact absurd hl (by decide)
    | cons c r =>
      have ec : x.cps = (c :: r).toArray := by rw [← hx]
      simp only [ec, Str.length]
      simp
  · have h0 : ¬ x.cps.toList[0]? = some 45 := by rw [← List.head?_eq_getElem?]; exact h
    have s : ¬ Builtin.Str.subAt x ⟨#[45]⟩ 0 = true := by
      intro t
      rw [PySem.StrLaws.subAt_eq] at t
      apply h
      have t := beq_iff_eq.mp t
      rw [List.drop_zero] at t
      cases hx : x.cps.toList with
      | nil => rw [hx] at t; cases t
      | cons c r =>
        rw [hx] at t
        have t : c :: r.take 0 = [45] := t
        rw [(List.cons.inj t).1]
        rfl
    rw [if_neg s, if_neg h]
    rfl
/-- the int of a text, where it is one -/
def readI (T : List Nat) : Option Int :=
  if (!(unsign T).isEmpty && (unsign T).all isDg) = true then
    (if (unsign T).head? = some 48 ∧ T ≠ [48] then none else some (if T.head? = some 45 then -((digitsVal (unsign T) : Nat) : Int) else ((digitsVal (unsign T) : Nat) : Int)))
  else none
theorem readI_bad {T : List Nat} (h : (!(unsign T).isEmpty && (unsign T).all isDg) = false) : readI T = none := by
  unfold readI
  rw [if_neg (by rw [h]; decide)]
theorem readI_zero {T : List Nat} (h : (unsign T).head? = some 48 ∧ T ≠ [48]) : readI T = none := by
  unfold readI
  rw [if_pos h]
  split <;> rfl
theorem readI_ok {T : List Nat} (h1 : unsign T ≠ []) (h2 : (unsign T).all isDg = true) (h : ¬ ((unsign T).head? = some 48 ∧ T ≠ [48])) : readI T = some (if T.head? = some 45 then -((digitsVal (unsign T) : Nat) : Int) else ((digitsVal (unsign T) : Nat) : Int)) := by
  unfold readI
  rw [if_neg h, if_pos]
  rw [h2]
  cases hu : unsign T with
  | nil => exact absurd hu h1
  | cons c r => rfl
theorem sign_str {y : Str} {c k : Nat} (h : y.cps.toList = [c]) {s : Str} (e : s = ⟨#[k]⟩) : decide (V.str y = V.str s) = decide (c = k) := by
  have hy : y = ⟨#[c]⟩ := by
    obtain ⟨a⟩ := y
    have h : a.toList = [c] := h
    rw [← Array.toArray_toList (xs := a), h]
  rw [hy]
  subst e
  by_cases q : c = k
  · subst q
    rw [decide_eq_true rfl, decide_eq_true rfl]
  · rw [decide_eq_false q, decide_eq_false fun t => q ?_]
    exact List.head_eq_of_cons_eq (congrArg (fun z : Str => z.cps.toList) (V.str.inj t))
theorem str_codes {y s : Str} : V.str y = V.str s ↔ y.cps.toList = s.cps.toList := ⟨fun h => by rw [vstr_inj h], fun h => congrArg V.str (ext_tl h)⟩
theorem cut_to (x : Str) {f : Nat} (h : f ≤ x.length) : (cutS x none (some (f : Int))).cps.toList = x.cps.toList.take f := by
  unfold cutS
  rw [HT.sIx_nat, HT.sIx_none, Nat.min_eq_left h, List.drop_zero, Nat.sub_zero]
theorem cut_mid (x : Str) {a b : Nat} (h1 : a ≤ b) (h2 : b ≤ x.length) : (cutS x (some (a : Int)) (some (b : Int))).cps.toList = (x.cps.toList.drop a).take (b - a) := by
  unfold cutS
  rw [HT.sIx_nat, HT.sIx_nat, Nat.min_eq_left h2, Nat.min_eq_left (Nat.le_trans h1 h2)]
theorem all_take {l : List Nat} (h : AllDigits l) (k : Nat) : AllDigits (l.take k) := fun c hc => h c (List.mem_of_mem_take hc)
theorem all_drop {l : List Nat} (h : AllDigits l) (k : Nat) : AllDigits (l.drop k) := fun c hc => h c (List.mem_of_mem_drop hc)
theorem rgC64 {f n : Nat} (h : f + 64 * n ≤ 6000) : RgC (f : Int) ((f + 64 * n : Nat) : Int) 64 n := by
  have e : Builtin.Range.rangeSize (f : Int) ((f + 64 * n : Nat) : Int) 64 = (n : Int) := by
    unfold Builtin.Range.rangeSize
    rw [if_pos (by decide)]
    split <;> omega
  refine ⟨by decide, by decide, ?_, e⟩
  have fit : ∀ k : Nat, k ≤ 100000 → Builtin.Range.rangeFitsLong (k : Int) = true := by
    intro k hk
    unfold Builtin.Range.rangeFitsLong
    rw [Bool.and_eq_true, decide_eq_true_eq, decide_eq_true_eq]
    omega
  have e2 : ((f + 64 * n : Nat) : Int) + ((64 : Int) - 1) = ((f + 64 * n + 63 : Nat) : Int) := by omega
  unfold Builtin.Range.small
  rw [e, if_pos (by decide), e2, fit f (by omega), fit (f + 64 * n) (by omega), fit n (by omega), fit (f + 64 * n + 63) (by omega), show Builtin.Range.rangeFitsLong 64 = true from by decide +kernel, Bool.or_true]
  rfl
theorem for_rngC {lo c : Int} {n k : Nat} {σ : St} {H : Hp} {tb : TS} {nx : St → Hp → Prop} {rt : VK} {bk ct : St → Hp → Prop} (Pv : Nat → St → Hp → Prop) (h0 : Pv 0 σ H) (hs : ∀ i σ H, i < n → Pv i σ H → tb ⟨Pv (i + 1), rt, nx, Pv (i + 1)⟩ (σ.set k (some (.int (lo + (i : Nat) * c)))) H) (hd : ∀ σ H, Pv n σ H → nx σ H) :
    forR (Itc lo c n) (gName k) tb ⟨nx, rt, bk, ct⟩ σ H := for_rangeC (D := ⟨nx, rt, bk, ct⟩) Pv h0 hs hd
theorem val_bits {l : List Nat} (h : AllDigits l) (hl : l.length ≤ 6000) : Bits 20000 ((digitsVal l : Nat) : Int) := by
  show (((digitsVal l : Nat) : Int)).natAbs < 2 ^ 20000
  have h1 := val_lt h
  have h2 : 10 ^ l.length ≤ 10 ^ 6000 := Nat.pow_le_pow_right (by decide) hl
  have h3 : 10 ^ 6000 < 2 ^ 20000 := by decide +kernel
  have h4 : (((digitsVal l : Nat) : Int)).natAbs = digitsVal l := rfl
  rw [h4]
  exact Nat.lt_trans (Nat.lt_of_lt_of_le h1 h2) h3
theorem int_of_digits {y : Str} (h : AllDigits y.cps.toList) (h1 : y.cps.toList ≠ []) (h2 : y.length ≤ 640) : intText? y = some ((digitsVal y.cps.toList : Nat) : Int) := intText_digits h h1 (Nat.le_trans h2 (by decide))
def spRdI (K : PySem.W.Frag) : Sp := fun vs H Q E => ∃ x : Str, vs = [.str x] ∧ x.length ≤ 6000 ∧ (∀ v, readI x.cps.toList = some v → Q (.int v) H) ∧
  (readI x.cps.toList = none → ∀ d H', Same H H' → H d = none → H' d = some (.xd [("at", .int 0)]) → E (.ref (He.ga K "BadText")) (some d) H')
theorem ok__read_integer (T : Top w K mg) : FnOk P w K mg base (L2.CX P w) 3 (He.ga K ("_read_integer" : Str)) (fdOf K d__read_integer) ["text"] (spRdI K) := by
  refine (T.f__read_integer).ok sc__read_integer (fun vs H Q E h => ?_) (fun cdv A outer s H vs Q E hr h => ?_)
  · obtain ⟨x, rfl, _⟩ := h
    rfl
  · obtain ⟨x, rfl, hx, kg, kb⟩ := h
    refine ⟨_, (pss_cons (ps_set (i := 1) sc__read_integer.nd rfl (Or.inl rfl) (pe_bm PySem.F.plainAttrs_str PySem.F.slot_str_removeprefix PySem.F.type_str_removeprefix mt_removeprefix (pv 0) (pa_cons pe_str pa_nil)))
    (C8.pss_cut (ps_if (pt_not (PW.pt (pw_and (pt_val (pe_bm0 PySem.F.plainAttrs_str PySem.F.slot_str_isascii PySem.F.type_str_isascii mt_isascii (pv 1))) (pw_and1 (pt_val (pe_bm0 PySem.F.plainAttrs_str PySem.F.slot_str_isdigit PySem.F.type_str_isdigit mt_isdigit (pv 1)))))))
    (pss_one (ps_raise rfl (takes_of rfl rfl rfl rfl) (pmk_oex (oexB_ok T.x_oex_BadText).1 (oexB_ok T.x_oex_BadText).2.1 (oexB_ok T.x_oex_BadText).2.2 (ok_BadText___init__ (K := K) T) (hr.mono (by decide)) T.b_BadText___init__ .nil pass0 rfl T.g_BadText (pa_cons pe_int pa_nil))))
    pss_nil)
    (C8.pss_cut (ps_if (PW.pt (pw_and (pt_cmpR op_eq (pe_ix ix_str (pv 1) pe_int (fun _ _ => rfl)) pe_str (nomark _)) (pw_and1 (pt_cmpR op_ne (pv 0) pe_str (nomark _)))))
    (pss_one (ps_raise rfl (takes_of rfl rfl rfl rfl) (pmk_oex (oexB_ok T.x_oex_BadText).1 (oexB_ok T.x_oex_BadText).2.1 (oexB_ok T.x_oex_BadText).2.2 (ok_BadText___init__ (K := K) T) (hr.mono (by decide)) T.b_BadText___init__ .nil pass0 rfl T.g_BadText (pa_cons pe_int pa_nil))))
    pss_nil)
    (pss_cons (ps_set (i := 2) sc__read_integer.nd rfl (Or.inl rfl) (pe_op op_sub (pe_callB call_len_str (by rfl) T.n_len PySem.boot_len (pa_cons (pv 1) pa_nil)) (pe_op op_mulW (pe_op op_fdivG (pe_callB call_len_str (by rfl) T.n_len PySem.boot_len (pa_cons (pv 1) pa_nil)) (pe_globE rfl T.i_CHUNK_DIGITS)) (pe_globE rfl T.i_CHUNK_DIGITS))))
    (pss_cons (ps_set (i := 3) sc__read_integer.nd rfl (Or.inl rfl) (pe_callTy call_int_str (by rfl) T.n_int (by decide +kernel) (pa_cons (pe_op op_add_str pe_str (pe_slice sl_str (pv 1) po_none (po_some (pv 2)))) pa_nil)))
    (pss_cons (ps_for (passes_of rfl) rfl (pi_range3 rfl T.n_range (pa_cons (pv 2) (pa_cons (pe_callB call_len_str (by rfl) T.n_len PySem.boot_len (pa_cons (pv 1) pa_nil)) (pa_cons (pe_globE rfl T.i_CHUNK_DIGITS) pa_nil)))) (pg_name (i := 4) sc__read_integer.nd rfl (Or.inl rfl))
    (pss_one (ps_set (i := 3) sc__read_integer.nd rfl (Or.inl rfl) (pe_op op_add (pe_op op_mulW (pv 3) (pe_globE rfl T.i_CHUNK)) (pe_callTy call_int_str (by rfl) T.n_int (by decide +kernel) (pa_cons (pe_slice sl_str (pv 1) (po_some (pv 4)) (po_some (pe_op op_add (pv 4) (pe_globE rfl T.i_CHUNK_DIGITS)))) pa_nil))))))
    (pss_one (ps_ret (pe_ifExp (pt_cmpR op_ne (pv 0) (pv 1) (nomark _)) (pe_un un_neg (pv 3)) (pv 3)))))))))), ?_⟩
    have mono : ∀ (v : V) (σ : St) (H : Hp) (P P' : List V → Hp → Prop), (∀ vs H1, P vs H1 → P' vs H1) → tCons (tC v) tNil σ H P → tCons (tC v) tNil σ H P' := fun v σ H P P' h t => h _ _ t
    walk_at "go"
    have em : (Str.ofString "-").length = 1 := by decide +kernel
    have lx : x.length ≤ sizeLine := by rw [sizeLine_eq]; omega
    refine ⟨rfl, ?_⟩
    walk_at "go"
    have hd := minus_off x
    generalize Txt.removeprefix x (Str.ofString "-") = dg at *
    have bad : readI x.cps.toList = none → tMkO (He.ga K "BadText") (spExc K (He.ga K "BadText") "at" okIx) [] (tCons (tC (V.int 0)) tNil) [some (V.str x), some (V.str dg), none, none, none] H fun cls d H' => E cls d H' := by
      intro hn
      refine r_raiseE (ok := okIx) ?_ (mono _ _ _)
      exact ⟨_, rfl, ⟨0, rfl, by decide⟩, fun d hd => kb hn d _ (same_new hd) hd upd_same⟩
    refine r_cut (fun σ H' => H' = H ∧ σ = [some (.str x), some (.str dg), none, none, none] ∧ dg.cps.toList ≠ [] ∧ dg.cps.toList.all isDg = true) ?_ ?_
    · have dt := dig_test dg
      rw [hd] at dt
      walk_at "go"
      refine ⟨rfl, dg, rfl, rfl, trivial, _, rfl, ?_⟩
      by_cases a : Txt.isascii dg = true
      · rw [a, Bool.true_and] at dt
        rw [if_pos a]
        refine ⟨_, rfl, rfl, dg, rfl, rfl, trivial, _, rfl, ?_⟩
        by_cases b : Txt.isdigit dg = true
        · rw [b] at dt ⊢
          walk_at "go"
          have dt := Bool.and_eq_true_iff.mp dt.symm
          refine ⟨rfl, rfl, fun t => ?_, ?_⟩
          · rw [hd] at t
            rw [t] at dt
            exact absurd dt.1 (by decide)
          · rw [hd]
            exact dt.2
        · rw [Bool.eq_false_iff.mpr b] at dt ⊢
          exact bad (readI_bad dt.symm)
      · rw [Bool.eq_false_iff.mpr a, Bool.false_and] at dt
        rw [if_neg a]
        exact bad (readI_bad dt.symm)
    · rintro σ H' ⟨rfl, rfl, ne, ad⟩
      obtain ⟨c0, r0, hc0⟩ : ∃ c r, dg.cps.toList = c :: r := by
        cases h : dg.cps.toList with
        | nil => exact absurd h ne
        | cons c r => exact ⟨c, r, rfl⟩
      have ld : dg.length ≤ 6000 := by
        rw [str_len] at hx
        rw [str_len, hd]
        unfold unsign
        split
        · rw [List.length_tail]
          omega
        · exact hx
      have lds : dg.length ≤ sizeLine := by rw [sizeLine_eq]; omega
      refine r_cut (fun σ H2 => H2 = H' ∧ σ = [some (.str x), some (.str dg), none, none, none] ∧ ¬ (dg.cps.toList.head? = some 48 ∧ x.cps.toList ≠ [48])) ?_ ?_
      · walk_at "go"
        refine ⟨dg, _, _, rfl, rfl, lds, atI_nat (j := 0) (show dg.cps.toList[0]? = some c0 by rw [hc0]; rfl), ?_⟩
        walk_at "go"
        rw [sign_str (y := ⟨#[c0]⟩) rfl (k := 48) (by decide +kernel)]
        refine ite_d (fun c => ?_) (fun c => ?_)
        · have hh : (unsign x.cps.toList).head? = some 48 := by rw [← hd, hc0, c]; rfl
          walk_at "go"
          have ex : (V.str x = V.str (Str.ofString "0")) ↔ x.cps.toList = [48] := by
            rw [str_codes, show (Str.ofString "0").cps.toList = [48] from by decide +kernel]
          refine ite_nd (fun d => ?_) (fun d => ?_)
          · exact bad (readI_zero ⟨hh, fun t => d (ex.mpr t)⟩)
          · walk_at "go"
            exact ⟨rfl, rfl, fun t => t.2 (ex.mp d)⟩
        · walk_at "go"
          refine ⟨rfl, rfl, fun t => c ?_⟩
          rw [hc0] at t
          exact Option.some.inj t.1
      · rintro σ H' ⟨rfl, rfl, nz⟩
        have kg := kg _ (readI_ok (by rw [← hd]; exact ne) (by rw [← hd]; exact ad) (by rw [← hd]; exact nz))
        rw [← hd] at kg
        have al := dg_all.mp ad
        walk_at "go"
        refine ⟨cdivG (b := 64) (by decide) (by decide) (by decide) (by decide), ?_⟩
        have ediv : ((dg.length : Nat) : Int).fdiv 64 = ((dg.length / 64 : Nat) : Int) := by
          rw [Int.fdiv_eq_ediv_of_nonneg _ (by decide)]
          rfl
        have eql := str_len dg
        have sm : ∀ k : Nat, k ≤ 6000 → Bits 64 (k : Int) := fun k h => by show (k : Int).natAbs < 2 ^ 64; omega
        walk_at "go"
        rw [ediv]
        refine ⟨Bits.mulW (sm _ (by omega)) (sm 64 (by omega)) (by decide), ?_⟩
        have efirst : ((dg.length : Nat) : Int) - ((dg.length / 64 : Nat) : Int) * 64 = ((dg.length % 64 : Nat) : Int) := by omega
        obtain ⟨n, f, hlen, hf, en, ef⟩ : ∃ n f, dg.length = f + 64 * n ∧ f < 64 ∧ dg.length / 64 = n ∧ dg.length % 64 = f := ⟨_, _, by omega, by omega, rfl, rfl⟩
        rw [ef] at efirst
        walk_at "go"
        rw [efirst]
        have c1 := cut_to dg (f := f) (by omega)
        have lc1 : (cutS dg none (some (f : Int))).length = f := by
          rw [str_len, c1, List.length_take]
          omega
        have l0 : (Str.ofString "0").length = 1 := by decide +kernel
        refine ⟨by rw [l0, lc1, sizeLine_eq]; omega, ?_⟩
        walk_at "go"
        have cz : (Str.ofString "0" ++ cutS dg none (some (f : Int))).cps.toList = [48] ++ dg.cps.toList.take f := by
          rw [Str.cps_append, Array.toList_append, c1, show (Str.ofString "0").cps.toList = [48] from by decide +kernel]
        have az : AllDigits ([48] ++ dg.cps.toList.take f) := all_app (fun c hc => by rw [List.mem_singleton.mp hc]; decide) (all_take al f)
        have vz : digitsVal ([48] ++ dg.cps.toList.take f) = digitsVal (dg.cps.toList.take f) := by
          rw [val_app, val_one]
          omega
        refine ⟨_, _, rfl, int_of_digits (by rw [cz]; exact az) (by rw [cz]; simp) (by rw [Str.length_append, l0, lc1]; omega), by rw [Str.length_append, l0, lc1]; omega, ?_⟩
        rw [cz, vz]
        walk_at "go"
        have eln : ((dg.length : Nat) : Int) = ((f + 64 * n : Nat) : Int) := by rw [hlen]
        refine ⟨(f : Int), ((dg.length : Nat) : Int), 64, n, rfl, by rw [eln]; exact rgC64 (by omega), ?_⟩
        refine for_rngC (fun i σ H2 => H2 = H' ∧ ∃ av : Option V, σ = [some (.str x), some (.str dg), some (.int (f : Int)), some (.int ((digitsVal (dg.cps.toList.take (f + 64 * i)) : Nat) : Int)), av]) ⟨rfl, _, rfl⟩ ?_ ?_
        · rintro i σ H2 hi ⟨rfl, av, rfl⟩
          have pos : (f : Int) + (i : Int) * 64 = ((f + 64 * i : Nat) : Int) := by omega
          rw [pos]
          have pos2 : ((f + 64 * i : Nat) : Int) + 64 = ((f + 64 * i + 64 : Nat) : Int) := by omega
          have cm := cut_mid dg (a := f + 64 * i) (b := f + 64 * i + 64) (by omega) (by omega)
          rw [Nat.add_sub_cancel_left] at cm
          have lcm : ((dg.cps.toList.drop (f + 64 * i)).take 64).length = 64 := by
            rw [List.length_take, List.length_drop]
            omega
          walk_at "go"
          rw [chunk_lit]
          have cb : Bits 220 ((10 ^ 64 : Nat) : Int) := by
            show (((10 ^ 64 : Nat) : Int)).natAbs < 2 ^ 220
            decide +kernel
          refine ⟨Bits.mulW (val_bits (all_take al _) (by rw [List.length_take]; omega)) cb (by decide), ?_⟩
          walk_at "go"
          rw [pos2]
          refine ⟨_, _, rfl, int_of_digits (by rw [cm]; exact all_take (all_drop al _) _) (by rw [cm]; exact fun t => by rw [t] at lcm; exact absurd lcm (by decide)) (by rw [str_len, cm, lcm]; decide), by rw [str_len, cm, lcm]; decide, ?_⟩
          refine ⟨_, _, rfl, rfl, rfl, some (.int ((f + 64 * i : Nat) : Int)), ?_⟩
          rw [cm]
          have step : dg.cps.toList.take (f + 64 * (i + 1)) = dg.cps.toList.take (f + 64 * i) ++ (dg.cps.toList.drop (f + 64 * i)).take 64 := by
            rw [show f + 64 * (i + 1) = f + 64 * i + 64 by omega, List.take_add]
          rw [step, val_app, lcm]
          rfl
        · rintro σ H2 ⟨rfl, av, rfl⟩
          have all : dg.cps.toList.take (f + 64 * n) = dg.cps.toList := List.take_of_length_le (by omega)
          rw [all]
          walk_at "go"
          have ex : (V.str x = V.str dg) ↔ ¬ x.cps.toList.head? = some 45 := by
            rw [str_codes, hd]
            unfold unsign
            split
            · rename_i h
              refine ⟨fun t => ?_, fun t => absurd h t⟩
              have := congrArg List.length t
              rw [List.length_tail] at this
              cases hx2 : x.cps.toList with
              | nil => rw [hx2] at h; cases h
              | cons c r => rw [hx2] at this; simp at this
            · rename_i h
              exact ⟨fun _ => h, fun _ => rfl⟩
          refine ite_nd (fun d => ?_) (fun d => ?_)
          · have hh : x.cps.toList.head? = some 45 := Classical.byContradiction fun t => d (ex.mpr t)
            rw [if_pos hh] at kg
            walk_at "go"
            exact kg
          · rw [if_neg (ex.mp d)] at kg
            walk_at "go"
            exact kg
end
/-! ### the law's own helpers: the stream -/
def spStream (K : PySem.W.Frag) : Sp := fun vs H Q _ => ∃ (a : Addr) (ns : List Int), vs = [.ref a] ∧ SqL K H a (ns.map V.int) ∧ ns.length ≤ 63 ∧ ∀ s H', Same H H' → Strm H' s → Q (.ref s) H'
def spDraw : Sp := fun vs H Q _ => ∃ (s : Addr) (n : Int), vs = [.ref s, .int n] ∧ Strm H s ∧ 0 < n ∧ n < 18446744073709551616 ∧ ∀ v, 0 ≤ v → v < n → Q (.int v) H
section
variable {P : Program} {w : World} {K : PySem.W.Frag} {mg : Str → Option Value} {base : Heap}
theorem small31 {i : Int} (h0 : 0 ≤ i) (h : i < 2147483648) : i.natAbs < 2 ^ 31 := by omega
theorem mulW31 {i j : Int} (h0 : 0 ≤ i) (h : i < 2147483648) (h2 : 0 ≤ j) (h3 : j < 2147483648) : CMulW i j := wide_mul (a := 31) (b := 31) (by omega) (by omega) (by decide) (by decide) (by decide)
theorem item_int {ns : List Int} {i : Nat} {x : V} (h : (ns.map V.int)[i]? = some x) : ∃ z, ns[i]? = some z ∧ x = .int z := by
  rw [List.getElem?_map] at h
  cases e : ns[i]? with
  | none => rw [e] at h; cases h
  | some z => rw [e] at h; exact ⟨z, rfl, (Option.some.inj h).symm⟩
theorem atI_ints {ns : List Int} {j : Int} (h0 : 0 ≤ j) (h : j < ((ns.map V.int).length : Int)) : ∃ z, atI (ns.map V.int) j = some (.int z) := by
  rw [List.length_map] at h
  have hk : j.toNat < ns.length := by omega
  have e : j = ((j.toNat : Nat) : Int) := by omega
  refine ⟨ns[j.toNat], ?_⟩
  have q : atI (ns.map V.int) ((j.toNat : Nat) : Int) = some (.int ns[j.toNat]) := atI_nat (by rw [List.getElem?_map, List.getElem?_eq_getElem hk] <;> rfl)
  rw [← e] at q
  exact q
theorem ok__law_draw (T : Top w K mg) : FnOk P w K mg base CX0 1 (He.ga K ("_law_draw" : Str)) (fdOf K d__law_draw) ["stream", "many"] spDraw := by
  refine (T.f__law_draw).ok sc__law_draw (fun vs H Q E h => ?_) (fun cdv A outer s H vs Q E hr h => ?_)
  · obtain ⟨a, n, rfl, _⟩ := h
    rfl
  · obtain ⟨s0, n, rfl, ⟨l, ns, hs, hl, h63⟩, h0, h1, k⟩ := h
    refine ⟨_, PSs.nox (pss_open s0 l (C8.pss_cut (ps_if (PW.pt (pw_and (pt_cmpR op_eq (pe_ix (ix_listK (K := K) rfl) (pv 0) pe_int (fun _ _ => rfl)) pe_int (nomark _)) (pw_and1 (pt_cmpR op_lt (pe_ix (ix_listK (K := K) rfl) (pv 0) pe_int (fun _ _ => rfl)) (pe_callB (call_lenK (K := K) rfl) (by rfl) T.n_len PySem.boot_len (pa_cons (pe_ix (ix_listK (K := K) rfl) (pv 0) pe_int (fun _ _ => rfl)) pa_nil)) (nomark _)))))
    (pss_cons (ps_asg (pe_callB call_abs (by rfl) T.n_abs (by decide +kernel) (pa_cons (pe_callTy call_int1 (by rfl) T.n_int (by decide +kernel) (pa_cons (pe_ix (ix_listK (K := K) rfl) (pe_ix (ix_listK (K := K) rfl) (pv 0) pe_int (fun _ _ => rfl)) (pe_ix (ix_listK (K := K) rfl) (pv 0) pe_int (fun _ _ => rfl)) (fun _ _ => rfl)) pa_nil)) pa_nil)) (pg_sub (pv 0) pe_int set_list))
    (pss_one (ps_asg (pe_op op_add (pe_ix (ix_listK (K := K) rfl) (pv 0) pe_int (fun _ _ => rfl)) pe_int) (pg_sub (pv 0) pe_int set_list))))
    pss_nil)
    (pss_cons (ps_if (pt_cmpR op_eq (pe_ix (ix_listK (K := K) rfl) (pv 0) pe_int (fun _ _ => rfl)) pe_int (nomark _))
    (pss_cons (ps_asg (pe_op op_mod (pe_callTy call_int1 (by rfl) T.n_int (by decide +kernel) (pa_cons (pe_op op_add (pe_op op_mulW (pe_ix (ix_listK (K := K) rfl) (pv 0) pe_int (fun _ _ => rfl)) pe_int) pe_int) pa_nil)) pe_int) (pg_sub (pv 0) pe_int set_list))
    (pss_one (ps_ret (pe_op op_mod (pe_callTy call_int1 (by rfl) T.n_int (by decide +kernel) (pa_cons (pe_op op_fdivG (pe_ix (ix_listK (K := K) rfl) (pv 0) pe_int (fun _ _ => rfl)) pe_int) pa_nil)) (pv 1)))))
    pss_nil)
    (pss_cons (ps_set (i := 2) sc__law_draw.nd rfl (Or.inl rfl) (pe_op op_mod (pe_callTy call_int1 (by rfl) T.n_int (by decide +kernel) (pa_cons (pe_ix (ix_listK (K := K) rfl) (pv 0) pe_int (fun _ _ => rfl)) pa_nil)) (pv 1)))
    (pss_cons (ps_asg (pe_op op_fdivG (pe_ix (ix_listK (K := K) rfl) (pv 0) pe_int (fun _ _ => rfl)) (pv 1)) (pg_sub (pv 0) pe_int set_list))
    (pss_one (ps_ret (pv 2)))))))), ?_⟩
    refine r_open hs (fun i j m hj => ?_)
    have hls : l ≠ s0 := ne_of hl hs (by intro z; cases z)
    refine r_cut (fun σ H' => σ = [some (.ref s0), some (.int n), none] ∧ ∃ i j, okS j m ∧ H' = upd H s0 (.lst (cellsV l i j m))) ?_ ?_
    · have hl' : ∀ o, SqL K (upd H s0 o) l (ns.map V.int) := fun o => SqL.of (by rw [upd_ne hls]; exact hl)
      walk_at "go"
      refine ite_d (fun c1 => ?_) (fun c1 => ?_)
      · walk_at "go"
        refine ⟨_, _, rfl, .inl (hl' _), ?_⟩
        walk_at "go"
        refine ite_d (fun c2 => ?_) (fun c2 => ?_)
        · obtain ⟨z, hz⟩ := atI_ints hj.1 c2
          walk_at "go"
          refine r_ixL (hl' _) hz ?_
          walk_at "go"
          exact ⟨rfl, _, j + 1, ⟨by have := hj.1; omega, hj.2⟩, by rw [upd_upd, upd_upd] <;> rfl⟩
        · walk_at "go"
          exact ⟨rfl, i, j, hj, rfl⟩
      · walk_at "go"
        exact ⟨rfl, i, j, hj, rfl⟩
    · rintro σ H' ⟨rfl, i, j, hj, rfl⟩
      walk_at "go"
      refine ite_d (fun c1 => ?_) (fun c1 => ?_)
      · walk_at "go"
        refine ⟨mulW31 hj.2.1 hj.2.2 (by decide) (by decide), ?_⟩
        walk_at "go"
        refine ⟨cdivG (b := 64) (by omega) (by omega) (by decide) (by decide), ?_⟩
        walk_at "go"
        refine ⟨i, j, (m * 48271 + 11) % 2147483647, upd_same, ⟨hj.1, by omega, by omega⟩, ?_⟩
        rw [upd_back2 hs]
        exact k _ (Int.emod_nonneg _ (by omega)) (Int.emod_lt_of_pos _ h0)
      · walk_at "go"
        refine ⟨cdivG (b := 64) (by omega) (by omega) (by decide) (by decide), ?_⟩
        walk_at "go"
        refine ⟨i.fdiv n, j, m, upd_same, hj, ?_⟩
        rw [upd_back2 hs]
        exact k _ (Int.emod_nonneg _ (by omega)) (Int.emod_lt_of_pos _ h0)
/-- a draw: any number below -/
theorem draw_at {s : Addr} {n : Int} {H : Hp} {Q : VK} {E : XK} (hS : Strm H s) (h0 : 0 < n) (h1 : n < 18446744073709551616) (k : ∀ v, 0 ≤ v → v < n → Q (.int v) H) : spDraw [.ref s, .int n] H Q E := ⟨s, n, rfl, hS, h0, h1, k⟩
theorem ok__law_stream (T : Top w K mg) : FnOk P w K mg base CX0 1 (He.ga K ("_law_stream" : Str)) (fdOf K d__law_stream) ["script"] (spStream K) := by
  refine (T.f__law_stream).ok sc__law_stream (fun vs H Q E h => ?_) (fun cdv A outer s H vs Q E hr h => ?_)
  · obtain ⟨a, n, rfl, _⟩ := h
    rfl
  · obtain ⟨a, ns, rfl, hS, h63, k⟩ := h
    refine ⟨_, PSs.nox (pss_shut (pss_cons (ps_set (i := 1) sc__law_stream.nd rfl (Or.inl rfl) pe_int)
    (pss_cons (ps_for PassesOwn.never rfl (pi_listK (K := K) rfl (pv 0)) (pg_name (i := 2) sc__law_stream.nd rfl (Or.inl rfl))
    (pss_one (ps_set (i := 1) sc__law_stream.nd rfl (Or.inl rfl) (pe_op op_mod (pe_callTy call_int1 (by rfl) T.n_int (by decide +kernel) (pa_cons (pe_op op_add (pe_op op_add (pe_op op_mulW (pv 1) pe_int) (pe_op op_mod (pe_callTy call_int1 (by rfl) T.n_int (by decide +kernel) (pa_cons (pv 2) pa_nil)) pe_int)) pe_int) pa_nil)) pe_int))))
    (pss_one (ps_ret (pe_lst (pa_cons (pe_callTy (call_listK (K := K) rfl) (by rfl) T.n_list (by decide +kernel) (pa_cons (pv 0) pa_nil)) (pa_cons pe_int (pa_cons pe_int (pa_cons (pv 1) pa_nil)))))))))), ?_⟩
    refine r_shut ?_
    walk_at "go"
    refine ⟨⟨_, hS⟩, for_lst (xs := ns.map V.int) (fun i σ H' => H' = H ∧ ∃ (m : Int) (v : Option V), σ = [some (.ref a), some (.int m), v] ∧ 0 ≤ m ∧ m < 2147483648) ⟨rfl, 17, none, rfl, by omega, by omega⟩ (fun i σ H' _ h => by rw [h.1]; exact hS) ?_ ?_⟩
    · rintro i x σ H' hx ⟨rfl, m, v, rfl, h0, h1⟩
      obtain ⟨z, hz, rfl⟩ := item_int hx
      walk_at "go"
      refine ⟨mulW31 h0 h1 (by decide) (by decide), ?_⟩
      walk_at "go"
      exact ⟨rfl, _, _, rfl, Int.emod_nonneg _ (by omega), by show _ % (2147483647 : Int) < _; omega⟩
    · rintro σ H' ⟨rfl, m, v, rfl, h0, h1⟩
      walk_at "go"
      refine ⟨_, _, rfl, .inl hS, fun l hl => ?_⟩
      walk_at "go"
      refine ⟨by show 4 ≤ sizeLine; decide, fun p hp => ?_⟩
      have hlp : l ≠ p := ne_of_none upd_same hp
      have s1 : Same H' (upd H' l (.lst (ns.map V.int))) := same_new hl
      have hp0 : H' p = none := s1.free hp
      refine ⟨p, l, 0, 0, m, rfl, upd_same, ⟨by omega, h0, h1⟩, k p _ (fun b o e => ?_) ⟨l, ns, upd_same, by rw [upd_ne hlp, upd_ne hlp, upd_same], h63⟩⟩
      rw [upd_ne (ne_of_none e hp0), upd_ne (ne_of_none e hp0)]
      exact s1 b o e
end
/-! ### the law's pair in lowest terms -/
def gcdI (n d : Int) : Int := ((Nat.gcd n.natAbs d.natAbs : Nat) : Int)
def sgc (n d : Int) : Int := if d < 0 then -gcdI n d else gcdI n d
def pn (n d : Int) : Int := n.fdiv (sgc n d)
def pd (n d : Int) : Int := d.fdiv (sgc n d)
theorem gcdI_pos {n d : Int} (h : d ≠ 0) : 0 < gcdI n d := by
  have : 0 < Nat.gcd n.natAbs d.natAbs := Nat.gcd_pos_of_pos_right _ (Int.natAbs_pos.mpr h)
  unfold gcdI
  omega
theorem sgc_ne {n d : Int} (h : d ≠ 0) : sgc n d ≠ 0 := by
  have := gcdI_pos (n := n) h
  unfold sgc
  split <;> omega
theorem sgc_abs {n d : Int} (h : d ≠ 0) : (sgc n d).natAbs ≤ d.natAbs := by
  have h1 : Nat.gcd n.natAbs d.natAbs ≤ d.natAbs := Nat.gcd_le_right _ (Int.natAbs_pos.mpr h)
  unfold sgc gcdI
  split <;> omega
section
variable {P : Program} {w : World} {K : PySem.W.Frag} {mg : Str → Option Value} {base : Heap}
def spPair : Sp := fun vs H Q _ => ∃ n d : Int, vs = [.int n, .int d] ∧ d ≠ 0 ∧ Bits 8000 d ∧ ∀ p H', Same H H' → H' p = some (.tup [.int (pn n d), .int (pd n d)]) → Q (.ref p) H'
theorem ok__law_pair (T : Top w K mg) : FnOk P w K mg base CX0 1 (He.ga K ("_law_pair" : Str)) (fdOf K d__law_pair) ["n", "d"] spPair := by
  refine (T.f__law_pair).ok sc__law_pair (fun vs H Q E h => ?_) (fun cdv A outer s H vs Q E hr h => ?_)
  · obtain ⟨n, d, rfl, _⟩ := h
    rfl
  · obtain ⟨n, d, rfl, hd, hb, k⟩ := h
    refine ⟨_, PSs.nox (pss_cons (ps_set (i := 2) sc__law_pair.nd rfl (Or.inl rfl) (pe_callB call_abs (by rfl) T.n_abs (by decide +kernel) (pa_cons (pv 0) pa_nil)))
    (pss_cons (ps_set (i := 3) sc__law_pair.nd rfl (Or.inl rfl) (pe_callB call_abs (by rfl) T.n_abs (by decide +kernel) (pa_cons (pv 1) pa_nil)))
    (pss_cons (ps_while PassesOwn.never (pt_cmpR op_gt (pv 3) pe_int (nomark _))
    (pss_one (ps_par (i := 2) (j := 3) (by rfl) sc__law_pair.nd rfl rfl (by decide) rfl rfl (pa_cons (pv 3) (pa_cons (pe_op op_mod (pe_callTy call_int1 (by rfl) T.n_int (by decide +kernel) (pa_cons (pv 2) pa_nil)) (pe_callTy call_int1 (by rfl) T.n_int (by decide +kernel) (pa_cons (pv 3) pa_nil))) pa_nil)) (by rfl))))
    (C8.pss_cut (ps_if (pt_cmpR op_lt (pv 1) pe_int (nomark _))
    (pss_one (ps_set (i := 2) sc__law_pair.nd rfl (Or.inl rfl) (pe_op op_sub pe_int (pv 2))))
    pss_nil)
    (pss_one (ps_ret (pe_tup (pa_cons (pe_op op_fdivG (pv 0) (pv 2)) (pa_cons (pe_op op_fdivG (pv 1) (pv 2)) pa_nil))))))))), ?_⟩
    walk_at "go"
    refine r_while (fun m σ H' => H' = H ∧ ∃ x y : Nat, σ = [some (.int n), some (.int d), some (.int x), some (.int y)] ∧ Nat.gcd x y = Nat.gcd n.natAbs d.natAbs ∧ m = y) d.natAbs ⟨rfl, n.natAbs, d.natAbs, ?_, rfl, rfl⟩ ?_
    · have e1 : (if n < 0 then -n else n) = ((n.natAbs : Nat) : Int) := by split <;> omega
      have e2 : (if d < 0 then -d else d) = ((d.natAbs : Nat) : Int) := by split <;> omega
      rw [e1, e2] <;> rfl
    · rintro m σ H' ⟨rfl, x, y, rfl, hg, rfl⟩
      walk_at "go"
      refine ite_d (fun c => ?_) (fun c => ?_)
      · refine ⟨_, fun _ _ z => z, ?_⟩
        walk_at "go"
        have hy : 0 < m := by omega
        refine ⟨x % m, Nat.mod_lt _ hy, rfl, m, x % m, ?_, ?_, rfl⟩
        · rfl
        · rw [← hg, Nat.gcd_comm x m, Nat.gcd_rec m x, Nat.gcd_comm]
      · have hy : m = 0 := by omega
        subst hy
        rw [Nat.gcd_zero_right] at hg
        have ex : (x : Int) = gcdI n d := by rw [hg] <;> rfl
        refine r_cut (fun σ H2 => σ = [some (.int n), some (.int d), some (.int (sgc n d)), some (.int 0)] ∧ H2 = H') ?_ ?_
        · walk_at "go"
          refine ite_d (fun c => ?_) (fun c => ?_)
          · walk_at "go"
            refine ⟨?_, rfl⟩
            have e : sgc n d = 0 - (x : Int) := by rw [ex, sgc, if_pos c]; omega
            rw [e] <;> rfl
          · walk_at "go"
            refine ⟨?_, rfl⟩
            have e : sgc n d = (x : Int) := by rw [ex, sgc, if_neg c]
            rw [e] <;> rfl
        · rintro σ H2 ⟨rfl, rfl⟩
          have cd : ∀ i, CDivG i (sgc n d) := fun i => Bits.divG (sgc_ne hd) (Bits.of_le (sgc_abs hd) hb) (by decide)
          walk_at "go"
          refine ⟨cd _, ?_⟩
          walk_at "go"
          refine ⟨cd _, ?_⟩
          walk_at "go"
          refine ⟨by show 2 ≤ sizeLine; decide, fun p hp => k p _ (same_new hp) upd_same⟩
end
section
variable {P : Program} {w : World} {K : PySem.W.Frag} {mg : Str → Option Value} {base : Heap}
/-! ### drawn whole numbers -/
def spFar : Sp := fun vs H Q _ => ∃ s : Addr, vs = [.ref s] ∧ Strm H s ∧ ∀ v, Bits 600 v → Q (.int v) H
theorem ok__law_far (T : Top w K mg) : FnOk P w K mg base CX0 2 (He.ga K ("_law_far" : Str)) (fdOf K d__law_far) ["stream"] spFar := by
  refine (T.f__law_far).ok sc__law_far (fun vs H Q E h => ?_) (fun cdv A outer s H vs Q E hr h => ?_)
  · obtain ⟨s, rfl, _⟩ := h
    rfl
  · obtain ⟨s0, rfl, hS, k⟩ := h
    refine ⟨_, PSs.nox (pss_cons (ps_set (i := 1) sc__law_far.nd rfl (Or.inl rfl) pe_int)
    (pss_cons (ps_for PassesOwn.never rfl (pi_range1 rfl T.n_range (pa_cons (pe_op op_add pe_int (pe_call (ok__law_draw (K := K) T) (hr.mono (by decide)) rfl T.g__law_draw T.f__law_draw.kp T.b__law_draw .nil pass0 (pa_cons (pv 0) (pa_cons pe_int pa_nil)))) pa_nil)) (pg_name (i := 2) sc__law_far.nd rfl (Or.inl rfl))
    (pss_one (ps_set (i := 1) sc__law_far.nd rfl (Or.inl rfl) (pe_op op_add (pe_op op_mulW (pv 1) (pe_op op_pow pe_int pe_int)) (pe_call (ok__law_draw (K := K) T) (hr.mono (by decide)) rfl T.g__law_draw T.f__law_draw.kp T.b__law_draw .nil pass0 (pa_cons (pv 0) (pa_cons (pe_op op_pow pe_int pe_int) pa_nil)))))))
    (pss_one (ps_ret (pv 1))))), ?_⟩
    walk_at "go"
    intro v h0 h1
    walk_at "go"
    refine for_rng (fun i σ H' => H' = H ∧ ∃ (f : Int) (v : Option V), σ = [some (.ref s0), some (.int f), v] ∧ Bits (40 * i + 64) f) ⟨rfl, 0, none, rfl, by show (0 : Int).natAbs < _; decide⟩ ?_ ?_
    · rintro i σ H' hi ⟨rfl, f, v', rfl, hf⟩
      walk_at "go"
      refine ⟨Bits.mulW (b := 64) hf (by show (_ : Int).natAbs < _; decide) (by omega), ?_⟩
      walk_at "go"
      intro v h2 h3
      have e10 : (10 : Int) ^ Int.toNat 10 = 10000000000 := by decide
      rw [e10] at h3
      walk_at "go"
      refine ⟨rfl, _, _, rfl, ?_⟩
      refine Bits.add (a := 40 * i + 64 + 34) (b := 64) (hf.mul (show Bits 34 _ from ?_)) (Bits.small (by omega) (by omega)) (by omega) (by omega)
      show Int.natAbs _ < 2 ^ 34
      rw [e10]
      decide
    · rintro σ H' ⟨rfl, f, v', rfl, hf⟩
      walk_at "go"
      exact k f (hf.mono (by omega))
def spWhole : Sp := fun vs H Q _ => ∃ s : Addr, vs = [.ref s] ∧ Strm H s ∧ ∀ v, Bits 700 v → Q (.int v) H
theorem ok__law_whole (T : Top w K mg) : FnOk P w K mg base CX0 3 (He.ga K ("_law_whole" : Str)) (fdOf K d__law_whole) ["stream"] spWhole := by
  refine (T.f__law_whole).ok sc__law_whole (fun vs H Q E h => ?_) (fun cdv A outer s H vs Q E hr h => ?_)
  · obtain ⟨s, rfl, _⟩ := h
    rfl
  · obtain ⟨s0, rfl, hS, k⟩ := h
    refine ⟨_, PSs.nox (pss_cons (ps_set (i := 1) sc__law_whole.nd rfl (Or.inl rfl) (pe_call (ok__law_draw (K := K) T) (hr.mono (by decide)) rfl T.g__law_draw T.f__law_draw.kp T.b__law_draw .nil pass0 (pa_cons (pv 0) (pa_cons pe_int pa_nil))))
    (pss_cons (ps_if (pt_cmpR op_lt (pv 1) pe_int (nomark _))
    (pss_one (ps_ret (pe_op op_sub (pe_call (ok__law_draw (K := K) T) (hr.mono (by decide)) rfl T.g__law_draw T.f__law_draw.kp T.b__law_draw .nil pass0 (pa_cons (pv 0) (pa_cons pe_int pa_nil))) pe_int)))
    pss_nil)
    (pss_cons (ps_if (pt_cmpR op_eq (pv 1) pe_int (nomark _))
    (pss_one (ps_ret (pe_op op_add (pe_op op_sub (pe_op op_mulW (pe_op op_pow pe_int pe_int) (pe_op op_pow pe_int pe_int)) pe_int) (pe_call (ok__law_draw (K := K) T) (hr.mono (by decide)) rfl T.g__law_draw T.f__law_draw.kp T.b__law_draw .nil pass0 (pa_cons (pv 0) (pa_cons pe_int pa_nil))))))
    pss_nil)
    (pss_one (ps_ret (pe_op op_mulW (pe_call (ok__law_far (K := K) T) (hr.mono (by decide)) rfl T.g__law_far T.f__law_far.kp T.b__law_far .nil pass0 (pa_cons (pv 0) pa_nil)) (pe_op op_sub pe_int (pe_op op_mulW pe_int (pe_call (ok__law_draw (K := K) T) (hr.mono (by decide)) rfl T.g__law_draw T.f__law_draw.kp T.b__law_draw .nil pass0 (pa_cons (pv 0) (pa_cons pe_int pa_nil))))))))))), ?_⟩
    walk_at "go"
    intro v h0 h1
    walk_at "go"
    refine ite_d (fun c => ?_) (fun c => ?_)
    · walk_at "go"
      intro v h2 h3
      walk_at "go"
      exact k _ (Bits.small (by omega) (by decide))
    · walk_at "go"
      refine ite_d (fun c2 => ?_) (fun c2 => ?_)
      · walk_at "go"
        have e60 : Bits 200 ((10 : Int) ^ Int.toNat 60) := by show Int.natAbs _ < 2 ^ 200; decide +kernel
        refine ⟨Bits.mulW e60 e60 (by decide), ?_⟩
        walk_at "go"
        intro v h2 h3
        walk_at "go"
        exact k _ (Bits.add (a := 401) (b := 64) (Bits.sub (a := 400) (b := 64) (e60.mul e60) (Bits.small (by decide) (by decide)) (by decide) (by decide)) (Bits.small (by omega) (by decide)) (by decide) (by decide))
      · walk_at "go"
        intro f hf
        walk_at "go"
        intro v h2 h3
        walk_at "go"
        have b2 : Bits 64 (2 * v) := Bits.small (by omega) (by decide)
        refine ⟨Bits.mulW (a := 64) (b := 64) (Bits.small (by decide) (by decide)) (Bits.small (by omega) (by decide)) (by decide), ?_⟩
        walk_at "go"
        have b3 : Bits 64 (1 - 2 * v) := Bits.small (by omega) (by decide)
        refine ⟨Bits.mulW hf b3 (by decide), ?_⟩
        exact k _ ((hf.mul b3).mono (by decide))
end
section
variable {P : Program} {w : World} {K : PySem.W.Frag} {mg : Str → Option Value} {base : Heap}
/-! ### Ratios -/
def rfl2 (n d : Int) : List (Str × V) := [("top", .int n), ("bottom", .int d)]
theorem r2_top (n d : Int) : (rfl2 n d).lookup ("top" : Str) = some (.int n) := rfl
theorem r2_bot (n d : Int) : (rfl2 n d).lookup ("bottom" : Str) = some (.int d) := by
  show (match (("bottom" : Str) == "top") with | true => some (V.int n) | false => List.lookup ("bottom" : Str) [("bottom", V.int d)]) = some (.int d)
  rw [show ((("bottom" : Str) == "top") = false) from by decide +kernel]
  rfl
theorem r2_put (n d : Int) : putF "bottom" (.int d) (putF "top" (.int n) []) = rfl2 n d := by
  show (if ("top" : Str) = "bottom" then [(("top" : Str), V.int d)] else (("top" : Str), V.int n) :: putF "bottom" (V.int d) []) = rfl2 n d
  rw [if_neg (show ¬ (("top" : Str) = "bottom") from by decide +kernel)]
  rfl
def RatAt (K : PySem.W.Frag) (H : Hp) (x : Addr) (n d : Int) : Prop := ∃ dx, H x = some (.ins (He.ga K "Ratio") dx (rfl2 n d))
theorem RatAt.mono {H H' : Hp} {x : Addr} {n d : Int} (h : RatAt K H x n d) (e : Same H H') : RatAt K H' x n d := by
  obtain ⟨dx, h⟩ := h
  exact ⟨dx, e _ _ h⟩
def spInit (K : PySem.W.Frag) : Sp := fun vs H Q E => ∃ (x dx : Addr) (n d : Int), vs = [.ref x, .int n, .int d] ∧ H x = some (.ins (He.ga K "Ratio") dx []) ∧ (d ≠ 0 → Bits 8000 (sgc n d)) ∧ (d = 0 → E (.ref (He.ga K "ByZero")) none H) ∧
  (d ≠ 0 → Q .non (upd H x (.ins (He.ga K "Ratio") dx (rfl2 (pn n d) (pd n d)))))
theorem ok_Ratio___init__ (T : Top w K mg) : FnOk P w K mg base (L2.CX P w) 1 (He.ma K (He.ga K ("Ratio" : Str)) ("__init__" : Str)) (fdOf K d_Ratio___init__) ["self", "numerator", "denominator"] (spInit K) := by
  refine (T.f_Ratio___init__).ok sc_Ratio___init__ (fun vs H Q E h => ?_) (fun cdv A outer s H vs Q E hr h => ?_)
  · obtain ⟨x, dx, n, d, rfl, _⟩ := h
    rfl
  · obtain ⟨x, dx, n, d, rfl, hx, hb, k0, k1⟩ := h
    refine ⟨_, (pss_cons (ps_if (pt_cmpR op_eq (pv 2) pe_int (nomark _))
    (pss_one (ps_raise rfl (takes_of rfl rfl rfl rfl) (pmk_own PySem.F.excBase_ValueError T.exc_ByZero.1 T.g_ByZero T.exc_ByZero.2.1 (raises_own T.exc_ByZero.2.2.1 T.exc_ByZero.2.2.2) rfl)))
    pss_nil)
    (pss_cons (ps_set (i := 3) sc_Ratio___init__.nd rfl (Or.inl rfl) (pe_callBfun cr_gcd rfl T.gcdM (pa_cons (pv 1) (pa_cons (pv 2) pa_nil))))
    (C8.pss_cut (ps_if (pt_cmpR op_lt (pv 2) pe_int (nomark _))
    (pss_one (ps_set (i := 3) sc_Ratio___init__.nd rfl (Or.inl rfl) (pe_un un_neg (pv 3))))
    pss_nil)
    (pss_cons (ps_fldK (K := K) rfl (pv 0) (pe_op op_fdivG (pv 1) (pv 3)) rfl)
    (pss_one (ps_fldK (K := K) rfl (pv 0) (pe_op op_fdivG (pv 2) (pv 3)) rfl)))))), ?_⟩
    walk_at "go"
    refine ite_d (fun c => ?_) (fun c => ?_)
    · exact k0 (vint_inj c)
    · walk_at "go"
      have hd : d ≠ 0 := vint_ne c
      refine r_cut (fun σ H' => σ = [some (.ref x), some (.int n), some (.int d), some (.int (sgc n d))] ∧ H' = H) ?_ ?_
      · walk_at "go"
        refine ite_d (fun c => ?_) (fun c => ?_)
        · walk_at "go"
          refine ⟨?_, rfl⟩
          have e : sgc n d = -(((n.natAbs.gcd d.natAbs : Nat)) : Int) := by rw [sgc, if_pos c] <;> rfl
          rw [e] <;> rfl
        · walk_at "go"
          refine ⟨?_, rfl⟩
          have e : sgc n d = (((n.natAbs.gcd d.natAbs : Nat)) : Int) := by rw [sgc, if_neg c] <;> rfl
          rw [e] <;> rfl
      · rintro σ H' ⟨rfl, rfl⟩
        have cd : ∀ i, CDivG i (sgc n d) := fun i => Bits.divG (sgc_ne hd) (hb hd) (by decide)
        walk_at "go"
        refine ⟨cd _, ?_⟩
        walk_at "go"
        refine ⟨_, _, _, _, rfl, hx, T.cls_Ratio, T.na_Ratio_top, (by show 0 < 1000; decide), ?_⟩
        walk_at "go"
        refine ⟨cd _, ?_⟩
        walk_at "go"
        refine ⟨_, _, _, _, rfl, upd_same, T.cls_Ratio, T.na_Ratio_bottom, (by show 1 < 1000; decide), ?_⟩
        have z := k1 hd
        rw [upd_upd]
        have e := r2_put (pn n d) (pd n d)
        show Q .non (upd H' x (.ins _ dx (putF "bottom" (.int (pd n d)) (putF "top" (.int (pn n d)) []))))
        rw [e]
        exact z
end
section
variable {P : Program} {w : World} {K : PySem.W.Frag} {mg : Str → Option Value} {base : Heap}
/-- a value is the Ratio of a pair -/
def spIs (K : PySem.W.Frag) : Sp := fun vs H Q _ => ∃ (x p : Addr) (n d a b : Int), vs = [.ref x, .ref p] ∧ RatAt K H x n d ∧ SqT K H p [.int a, .int b] ∧ Q (.bl (decide (n = a) && decide (d = b))) H
theorem r_isiInt {H : Hp} {Q : VK} {n : Int} (T : Top w K mg) (h : Q (.bl false) H) : rIsi K [.int n, .ty "bool"] H Q := r_isi (.base (.int n)) (.ty _) (of_decide_eq_true T.x_kit_t_int_t_bool) h
theorem r_isiRat {H : Hp} {Q : VK} {x : Addr} {n d : Int} (T : Top w K mg) (r : RatAt K H x n d) (h : Q (.bl true) H) : rIsi K [.ref x, .ref (He.ga K "Ratio")] H Q := by
  obtain ⟨dx, r⟩ := r
  exact r_isi (isi_ins T.x_isi_Ratio T.cls_Ratio r) (.own _) (of_decide_eq_true T.x_kit_Ratio_Ratio) h
theorem ok__law_is (T : Top w K mg) : FnOk P w K mg base CX0 1 (He.ga K ("_law_is" : Str)) (fdOf K d__law_is) ["value", "pair"] (spIs K) := by
  refine (T.f__law_is).ok sc__law_is (fun vs H Q E h => ?_) (fun cdv A outer s H vs Q E hr h => ?_)
  · obtain ⟨x, p, n, d, a, b, rfl, _⟩ := h
    rfl
  · obtain ⟨x, p, n, d, a, b, rfl, r, hp, k⟩ := h
    obtain ⟨dx, hx⟩ := id r
    refine ⟨_, PSs.nox (pss_cons (ps_if (PW.pt (pw_or (pt_not (pt_val (pe_callB (call_isiK' (K := K) rfl) (by rfl) T.n_isinstance (by decide +kernel) (pa_cons (pv 0) (pa_cons (pe_glob (v := .ref (He.ga K ("Ratio" : Str))) rfl T.g_Ratio rfl) pa_nil))))) (pw_or (pt_val (pe_callB (call_isiK' (K := K) rfl) (by rfl) T.n_isinstance (by decide +kernel) (pa_cons (pe_fldK (K := K) rfl (pv 0) rfl) (pa_cons (pe_bltn (v := .ty "bool") rfl T.n_bool (by decide +kernel) rfl) pa_nil)))) (pw_or1 (pt_val (pe_callB (call_isiK' (K := K) rfl) (by rfl) T.n_isinstance (by decide +kernel) (pa_cons (pe_fldK (K := K) rfl (pv 0) rfl) (pa_cons (pe_bltn (v := .ty "bool") rfl T.n_bool (by decide +kernel) rfl) pa_nil))))))))
    (pss_one (ps_ret pe_bl))
    pss_nil)
    (pss_one (ps_ret (pe_and (pe_cmpR op_eq (pe_fldK (K := K) rfl (pv 0) rfl) (pe_ix (ix_tupK (K := K) rfl) (pv 1) pe_int (fun _ _ => rfl)) (nomark _)) (pe_one (pe_cmpR op_eq (pe_fldK (K := K) rfl (pv 0) rfl) (pe_ix (ix_tupK (K := K) rfl) (pv 1) pe_int (fun _ _ => rfl)) (nomark _))))))), ?_⟩
    walk_at "go"
    refine r_isiRat T r ?_
    walk_at "go"
    refine ⟨_, _, _, _, _, rfl, hx, T.cls_Ratio, T.na_Ratio_top, r2_top n d, ?_⟩
    walk_at "go"
    refine r_isiInt T ?_
    walk_at "go"
    refine ⟨_, _, _, _, _, rfl, hx, T.cls_Ratio, T.na_Ratio_bottom, r2_bot n d, ?_⟩
    walk_at "go"
    refine r_isiInt T ?_
    walk_at "go"
    refine ⟨_, _, _, _, _, rfl, hx, T.cls_Ratio, T.na_Ratio_top, r2_top n d, ?_⟩
    walk_at "go"
    refine r_ixT hp rfl ?_
    walk_at "go"
    refine ite_d (fun c => ?_) (fun c => ?_)
    · walk_at "go"
      refine ⟨_, _, _, _, _, rfl, hx, T.cls_Ratio, T.na_Ratio_bottom, r2_bot n d, ?_⟩
      walk_at "go"
      refine r_ixT hp rfl ?_
      walk_at "go"
      rw [decide_eq_true (vint_inj c), Bool.true_and] at k
      rw [dec_int, Bool.beq_eq_decide_eq]
      exact k
    · rw [decide_eq_false (vint_ne c), Bool.false_and] at k
      exact k
end
/-! ### lowest terms -/
structure Low (n d : Int) : Prop where
  pos : 0 < d
  cop : Nat.gcd n.natAbs d.natAbs = 1
theorem sgc_nat (n d : Int) : (sgc n d).natAbs = Nat.gcd n.natAbs d.natAbs := by
  unfold sgc gcdI
  split
  · rw [Int.natAbs_neg, Int.natAbs_natCast]
  · rw [Int.natAbs_natCast]
theorem sgc_dvd_n (n d : Int) : sgc n d ∣ n := Int.natAbs_dvd_natAbs.mp (by rw [sgc_nat]; exact Nat.gcd_dvd_left _ _)
theorem sgc_dvd_d (n d : Int) : sgc n d ∣ d := Int.natAbs_dvd_natAbs.mp (by rw [sgc_nat]; exact Nat.gcd_dvd_right _ _)
theorem pn_mul (n d : Int) : pn n d * sgc n d = n := Int.fdiv_mul_cancel (sgc_dvd_n n d)
theorem pd_mul (n d : Int) : pd n d * sgc n d = d := Int.fdiv_mul_cancel (sgc_dvd_d n d)
theorem low_of {n d : Int} (h : d ≠ 0) : Low (pn n d) (pd n d) := by
  have hs := sgc_ne (n := n) h
  have e1 := pn_mul n d
  have e2 := pd_mul n d
  have g0 : 0 < (sgc n d).natAbs := Int.natAbs_pos.mpr hs
  refine ⟨?_, ?_⟩
  · rcases Int.lt_trichotomy d 0 with c | c | c
    · have s0 : sgc n d < 0 := by
        have := gcdI_pos (n := n) h
        unfold sgc
        rw [if_pos c]
        omega
      rcases Int.lt_or_le 0 (pd n d) with p | p
      · exact p
      · have := Int.mul_nonneg_of_nonpos_of_nonpos p (Int.le_of_lt s0)
        rw [e2] at this
        omega
    · exact absurd c h
    · have s0 : 0 < sgc n d := by
        have := gcdI_pos (n := n) h
        unfold sgc
        rw [if_neg (by omega)]
        exact this
      rcases Int.lt_or_le 0 (pd n d) with p | p
      · exact p
      · have := Int.mul_nonpos_of_nonpos_of_nonneg p (Int.le_of_lt s0)
        rw [e2] at this
        omega
  · have a1 : n.natAbs = (pn n d).natAbs * (sgc n d).natAbs := by rw [← Int.natAbs_mul, e1]
    have a2 : d.natAbs = (pd n d).natAbs * (sgc n d).natAbs := by rw [← Int.natAbs_mul, e2]
    have a3 := sgc_nat n d
    have a4 : Nat.gcd ((pn n d).natAbs * (sgc n d).natAbs) ((pd n d).natAbs * (sgc n d).natAbs) = (sgc n d).natAbs := by
      rw [← a1, ← a2, a3]
    rw [Nat.gcd_mul_right] at a4
    exact Nat.eq_of_mul_eq_mul_right g0 (by rw [a4, Nat.one_mul])
theorem sgc_low {n d : Int} (h : Low n d) : sgc n d = 1 := by
  have hp := h.pos
  unfold sgc gcdI
  rw [if_neg (by omega), h.cop] <;> rfl
theorem pn_low {n d : Int} (h : Low n d) : pn n d = n := by unfold pn; rw [sgc_low h, Int.fdiv_one]
theorem pd_low {n d : Int} (h : Low n d) : pd n d = d := by unfold pd; rw [sgc_low h, Int.fdiv_one]
theorem pn_le {n d : Int} (h : d ≠ 0) : (pn n d).natAbs ≤ n.natAbs := by
  have a1 : n.natAbs = (pn n d).natAbs * (sgc n d).natAbs := by rw [← Int.natAbs_mul, pn_mul]
  have g0 : 0 < (sgc n d).natAbs := Int.natAbs_pos.mpr (sgc_ne h)
  rw [a1]
  exact Nat.le_mul_of_pos_right _ g0
theorem pd_le {n d : Int} (h : d ≠ 0) : (pd n d).natAbs ≤ d.natAbs := by
  have a1 : d.natAbs = (pd n d).natAbs * (sgc n d).natAbs := by rw [← Int.natAbs_mul, pd_mul]
  have g0 : 0 < (sgc n d).natAbs := Int.natAbs_pos.mpr (sgc_ne h)
  rw [a1]
  exact Nat.le_mul_of_pos_right _ g0
theorem Low.neg {n d : Int} (h : Low n d) : Low (-n) d := ⟨h.pos, by rw [Int.natAbs_neg]; exact h.cop⟩
section
variable {P : Program} {w : World} {K : PySem.W.Frag} {mg : Str → Option Value} {base : Heap}
def spDrawn : Sp := fun vs H Q _ => ∃ s : Addr, vs = [.ref s] ∧ Strm H s ∧ ∀ p n d H', Same H H' → H' p = some (.tup [.int n, .int d]) → Low n d → Bits 700 n → Bits 700 d → Q (.ref p) H'
theorem ok__law_drawn_pair (T : Top w K mg) : FnOk P w K mg base CX0 4 (He.ga K ("_law_drawn_pair" : Str)) (fdOf K d__law_drawn_pair) ["stream"] spDrawn := by
  refine (T.f__law_drawn_pair).ok sc__law_drawn_pair (fun vs H Q E h => ?_) (fun cdv A outer s H vs Q E hr h => ?_)
  · obtain ⟨s, rfl, _⟩ := h
    rfl
  · obtain ⟨s0, rfl, hS, k⟩ := h
    refine ⟨_, PSs.nox (pss_cons (ps_set (i := 1) sc__law_drawn_pair.nd rfl (Or.inl rfl) (pe_call (ok__law_whole (K := K) T) (hr.mono (by decide)) rfl T.g__law_whole T.f__law_whole.kp T.b__law_whole .nil pass0 (pa_cons (pv 0) pa_nil)))
    (C8.pss_cut (ps_if (pt_cmpR op_eq (pv 1) pe_int (nomark _))
    (pss_one (ps_set (i := 1) sc__law_drawn_pair.nd rfl (Or.inl rfl) pe_int))
    pss_nil)
    (pss_one (ps_ret (pe_call (ok__law_pair (K := K) T) (hr.mono (by decide)) rfl T.g__law_pair T.f__law_pair.kp T.b__law_pair .nil pass0 (pa_cons (pe_call (ok__law_whole (K := K) T) (hr.mono (by decide)) rfl T.g__law_whole T.f__law_whole.kp T.b__law_whole .nil pass0 (pa_cons (pv 0) pa_nil)) (pa_cons (pv 1) pa_nil))))))), ?_⟩
    walk_at "go"
    intro d hd
    walk_at "go"
    refine r_cut (fun σ H' => H' = H ∧ ∃ d : Int, σ = [some (.ref s0), some (.int d)] ∧ Bits 700 d ∧ d ≠ 0) ?_ ?_
    · walk_at "go"
      refine ite_d (fun c => ?_) (fun c => ?_)
      · walk_at "go"
        exact ⟨rfl, 7, rfl, Bits.small (by decide) (by decide), by decide⟩
      · walk_at "go"
        exact ⟨rfl, d, rfl, hd, vint_ne c⟩
    · rintro σ H2 ⟨rfl, d, rfl, hd, h0⟩
      have b8 : Bits 8000 d := hd.mono (by decide)
      walk_at "go"
      intro n hn
      walk_at "go"
      intro p H3 s3 hp
      exact k p _ _ H3 s3 hp (low_of h0) (Bits.of_le (pn_le h0) hn) (Bits.of_le (pd_le h0) hd)
end
section
open NumText TL
variable {P : Program} {w : World} {K : PySem.W.Frag} {mg : Str → Option Value} {base : Heap}
/-! ### the text of a value, and its reading -/
def ratL (n d : Int) : List Nat := if d = 1 then intL n else intL n ++ 47 :: intL d
theorem intL_len {n : Int} (h : n.natAbs < 10 ^ 6400) : (intL n).length ≤ 6401 := by
  have := numL_len (k := 6400) (by decide) h
  unfold intL
  split
  · rw [List.length_cons]
    omega
  · omega
def spRText (K : PySem.W.Frag) : Sp := fun vs H Q _ => (∃ b : Bool, vs = [.bl b] ∧ Q (.str (Str.ofString (if b then "true" else "false"))) H) ∨
  ∃ (x : Addr) (n d : Int), vs = [.ref x] ∧ RatAt K H x n d ∧ n.natAbs < 10 ^ 6400 ∧ d.natAbs < 10 ^ 6400 ∧ ∀ y H', Same H H' → y.cps.toList = ratL n d → Q (.str y) H'
theorem ok_ratio_text (T : Top w K mg) : FnOk P w K mg base CX0 2 (He.ga K ("ratio_text" : Str)) (fdOf K d_ratio_text) ["value"] (spRText K) := by
  refine (T.f_ratio_text).ok sc_ratio_text (fun vs H Q E h => ?_) (fun cdv A outer s H vs Q E hr h => ?_)
  · obtain ⟨b, rfl, _⟩ | ⟨x, n, d, rfl, _⟩ := h <;> rfl
  · refine ⟨_, PSs.nox (pss_cons (ps_if (pt_val (pe_callB (call_isiK' (K := K) rfl) (by rfl) T.n_isinstance (by decide +kernel) (pa_cons (pv 0) (pa_cons (pe_bltn (v := .ty "bool") rfl T.n_bool (by decide +kernel) rfl) pa_nil))))
    (pss_one (ps_ret (pe_ifExp (pt_truth (pv 0) (by intro _; rfl)) pe_str pe_str)))
    pss_nil)
    (pss_cons (ps_if (pt_cmpR op_eq (pe_fldK (K := K) rfl (pv 0) rfl) pe_int (nomark _))
    (pss_one (ps_ret (pe_call (ok__integer_text (K := K) T) (hr.mono (by decide)) rfl T.g__integer_text T.f__integer_text.kp T.b__integer_text .nil pass0 (pa_cons (pe_fldK (K := K) rfl (pv 0) rfl) pa_nil))))
    pss_nil)
    (pss_one (ps_ret (pe_joined (.cons (pe_fmt (pe_call (ok__integer_text (K := K) T) (hr.mono (by decide)) rfl T.g__integer_text T.f__integer_text.kp T.b__integer_text .nil pass0 (pa_cons (pe_fldK (K := K) rfl (pv 0) rfl) pa_nil))) (.cons pe_str (.cons (pe_fmt (pe_call (ok__integer_text (K := K) T) (hr.mono (by decide)) rfl T.g__integer_text T.f__integer_text.kp T.b__integer_text .nil pass0 (pa_cons (pe_fldK (K := K) rfl (pv 0) rfl) pa_nil))) .nil)))))))), ?_⟩
    obtain ⟨b, rfl, k⟩ | ⟨x, n, d, rfl, r, hn, hd, k⟩ := h
    · walk_at "go"
      refine r_isi (.base (.bl _)) (.ty _) (of_decide_eq_true T.x_kit_t_bool_t_bool) ?_
      walk_at "go"
      cases b
      · exact k
      · exact k
    · obtain ⟨dx, hx⟩ := id r
      walk_at "go"
      refine r_isi (isi_ins T.x_isi_Ratio T.cls_Ratio hx) (.ty _) (of_decide_eq_true T.x_kit_Ratio_t_bool) ?_
      walk_at "go"
      refine ⟨_, _, _, _, _, rfl, hx, T.cls_Ratio, T.na_Ratio_bottom, r2_bot n d, ?_⟩
      walk_at "go"
      refine ite_d (fun c => ?_) (fun c => ?_)
      · walk_at "go"
        refine ⟨_, _, _, _, _, rfl, hx, T.cls_Ratio, T.na_Ratio_top, r2_top n d, ?_⟩
        walk_at "go"
        refine fun y H' e ey => k y H' e ?_
        unfold ratL
        rw [if_pos (vint_inj c)]
        exact ey
      · walk_at "go"
        refine ⟨_, _, _, _, _, rfl, hx, T.cls_Ratio, T.na_Ratio_top, r2_top n d, ?_⟩
        walk_at "go"
        refine fun y H1 e1 ey => .inl ⟨y, rfl, ?_, ?_⟩
        · rw [str_len, ey, sizeLine_eq]
          have := intL_len hn
          omega
        have ly : y.length ≤ 6401 := by rw [str_len, ey]; exact intL_len hn
        have ee : (Str.empty ++ y) = y := by
          refine ext_tl ?_
          rw [tl_append]
          rfl
        refine ⟨y, rfl, ?_⟩
        rw [ee]
        refine ⟨by rw [sizeLine_eq]; omega, ?_⟩
        have ls : (Str.ofString "/").length = 1 := by decide +kernel
        have l2 : (y ++ Str.ofString "/").length ≤ 6402 := by rw [Str.length_append, ls]; omega
        refine ⟨_, rfl, by rw [sizeLine_eq]; omega, ?_⟩
        walk_at "go"
        have hx1 := e1 _ _ hx
        refine ⟨_, _, _, _, _, rfl, hx1, T.cls_Ratio, T.na_Ratio_bottom, r2_bot n d, ?_⟩
        walk_at "go"
        refine fun z H2 e2 ez => .inl ⟨z, rfl, ?_, ?_⟩
        · rw [str_len, ez, sizeLine_eq]
          have := intL_len hd
          omega
        have lz : z.length ≤ 6401 := by rw [str_len, ez]; exact intL_len hd
        refine ⟨_, rfl, by rw [Str.length_append, sizeLine_eq]; omega, ?_⟩
        refine k _ H2 (e1.trans e2) ?_
        unfold ratL
        rw [if_neg (fun t => c (congrArg V.int t)), Str.cps_append, Str.cps_append, Array.toList_append, Array.toList_append, ey, ez, show (Str.ofString "/").cps.toList = [47] from by decide +kernel, List.append_assoc]
        rfl
end
section
open NumText TL
variable {P : Program} {w : World} {K : PySem.W.Frag} {mg : Str → Option Value} {base : Heap}
/-! ### reading a fraction -/
def preL (T : List Nat) : List Nat := T.takeWhile (· != 47)
def sufL (T : List Nat) : List Nat := T.drop ((preL T).length + 1)
def pairR : Option Int → Option Int → Option (Int × Int)
  | some t, some b => if 2 ≤ b ∧ Nat.gcd t.natAbs b.natAbs = 1 then some (t, b) else none
  | _, _ => none
def readR (T : List Nat) : Option (Int × Int) := if 47 ∈ T then pairR (readI (preL T)) (readI (sufL T)) else (readI T).map fun n => (n, 1)
theorem pre_free (T : List Nat) : 47 ∉ preL T := fun h => by
  have := List.all_eq_true.mp (List.all_takeWhile (l := T) (p := (· != 47))) 47 h
  exact absurd this (by decide)
theorem pre_suf : ∀ {T : List Nat}, 47 ∈ T → T = preL T ++ 47 :: sufL T
  | [], h => nomatch h
  | c :: r, h => by
    by_cases q : c = 47
    · subst q
      rfl
    · have hr : 47 ∈ r := (List.mem_cons.mp h).resolve_left fun t => q t.symm
      have ih := pre_suf hr
      have e : preL (c :: r) = c :: preL r := by
        unfold preL
        rw [List.takeWhile_cons, if_pos (by rw [bne_iff_ne]; exact q)]
      have e2 : sufL (c :: r) = sufL r := by
        unfold sufL
        rw [e, List.length_cons, List.drop_succ_cons]
      rw [e, e2, List.cons_append, ← ih]
theorem part_slash (x : Str) : ∃ a m b : Str, Txt.partition x (Str.ofString "/") = (a, m, b) ∧ ((47 ∈ x.cps.toList ∧ m = Str.ofString "/" ∧ a.cps.toList = preL x.cps.toList ∧ b.cps.toList = sufL x.cps.toList) ∨ (47 ∉ x.cps.toList ∧ m = Str.empty ∧ a = x)) := by
  have ey : tl (Str.ofString "/") = 47 :: [] := by decide +kernel
  by_cases h : 47 ∈ x.cps.toList
  · have q : x = (⟨(preL x.cps.toList).toArray⟩ : Str) ++ Str.ofString "/" ++ (⟨(sufL x.cps.toList).toArray⟩ : Str) := by
      refine ext_tl ?_
      rw [tl_append, tl_append, ey]
      show x.cps.toList = (preL x.cps.toList ++ [47]) ++ sufL x.cps.toList
      rw [List.append_assoc]
      exact pre_suf h
    have z := partition_app ey (a := (⟨(preL x.cps.toList).toArray⟩ : Str)) (b := (⟨(sufL x.cps.toList).toArray⟩ : Str)) (pre_free _)
    rw [← q] at z
    exact ⟨_, _, _, z, .inl ⟨h, rfl, rfl, rfl⟩⟩
  · exact ⟨_, _, _, partition_none ey h, .inr ⟨h, rfl, rfl⟩⟩
theorem none_back {H H1 : Hp} {d : Addr} (e : Same H H1) (h : H1 d = none) : H d = none := by
  cases q : H d with
  | none => rfl
  | some b => rw [e _ _ q] at h; cases h
theorem made_at2 {H : Hp} {R : Hp → Prop} {E : XK} {n d : Int} {z dx : Addr} (nz : H z = none) (ndx : H dx = none) (hl : Low n d) (k : ∀ H', Same H H' → RatAt K H' z n d → R H') :
    spInit K [.ref z, .int n, .int d] (upd (upd H dx (.own z)) z (.ins (He.ga K "Ratio") dx [])) (fun v H2 => v = .non ∧ R H2) E :=
  ⟨z, dx, n, d, rfl, upd_same, fun _ => by rw [sgc_low hl]; exact Bits.small (by decide) (by decide), fun h => absurd h (Int.ne_of_gt hl.pos), fun _ => ⟨rfl, by
    rw [pn_low hl, pd_low hl, upd_upd]
    exact k _ (same_mk nz ndx) ⟨dx, upd_same⟩⟩⟩
theorem low_one (n : Int) : Low n 1 := ⟨by decide, Nat.gcd_one_right _⟩
theorem int_ne {a b : Int} (h : ¬ a = b) : ¬ V.int a = V.int b := fun t => h (vint_inj t)
def spRead (K : PySem.W.Frag) : Sp := fun vs H Q E => ∃ x : Str, vs = [.str x] ∧ x.length ≤ 6000 ∧ (∀ n d, readR x.cps.toList = some (n, d) → ∀ p H', Same H H' → RatAt K H' p n d → Q (.ref p) H') ∧
  (readR x.cps.toList = none → ∀ d H', Same H H' → H d = none → H' d = some (.xd [("at", .int 0)]) → E (.ref (He.ga K "BadText")) (some d) H')
theorem ok_read_ratio (T : Top w K mg) : FnOk P w K mg base (L2.CX P w) 4 (He.ga K ("read_ratio" : Str)) (fdOf K d_read_ratio) ["line"] (spRead K) := by
  obtain ⟨ds0, B0⟩ := T.b0_Ratio___init__
  obtain ⟨ds1, B1⟩ := T.b1_Ratio___init__
  refine (T.f_read_ratio).ok sc_read_ratio (fun vs H Q E h => ?_) (fun cdv A outer s H vs Q E hr h => ?_)
  · obtain ⟨x, rfl, _⟩ := h
    rfl
  · obtain ⟨x, rfl, hx, kg, kb⟩ := h
    refine ⟨_, (pss_cons (ps_asg (pe_bm PySem.F.plainAttrs_str PySem.F.slot_str_partition PySem.F.type_str_partition mt_partition (pv 0) (pa_cons pe_str pa_nil)) (pg_tup (by rfl) (pgs_cons (pg_name (i := 1) sc_read_ratio.nd rfl (Or.inl rfl)) (pgs_cons (pg_name (i := 2) sc_read_ratio.nd rfl (Or.inl rfl)) (pgs_cons (pg_name (i := 3) sc_read_ratio.nd rfl (Or.inl rfl)) pgs_nil)))))
    (pss_cons (ps_set (i := 4) sc_read_ratio.nd rfl (Or.inl rfl) (pe_call (ok__read_integer (K := K) T) (hr.mono (by decide)) rfl T.g__read_integer T.f__read_integer.kp T.b__read_integer .nil (passX (takes_of rfl rfl rfl rfl)) (pa_cons (pv 1) pa_nil)))
    (pss_cons (ps_if (pt_cmpR op_eq (pv 2) pe_str (nomark _))
    (pss_one (ps_ret (pe_make (C := He.ga K ("Ratio" : Str)) T.mk_Ratio (ok_Ratio___init__ (K := K) T) (hr.mono (by decide)) rfl T.g_Ratio (B0.2) (B0.1) (passX (takes_of rfl rfl rfl rfl)) (pa_cons (pv 4) pa_nil))))
    pss_nil)
    (pss_cons (ps_set (i := 5) sc_read_ratio.nd rfl (Or.inl rfl) (pe_call (ok__read_integer (K := K) T) (hr.mono (by decide)) rfl T.g__read_integer T.f__read_integer.kp T.b__read_integer .nil (passX (takes_of rfl rfl rfl rfl)) (pa_cons (pv 3) pa_nil)))
    (pss_cons (ps_if (PW.pt (pw_or (pt_cmpR op_lt (pv 5) pe_int (nomark _)) (pw_or1 (pt_cmpR op_ne (pe_callBfun cr_gcd rfl T.gcdM (pa_cons (pv 4) (pa_cons (pv 5) pa_nil))) pe_int (nomark _)))))
    (pss_one (ps_raise rfl (takes_of rfl rfl rfl rfl) (pmk_oex (oexB_ok T.x_oex_BadText).1 (oexB_ok T.x_oex_BadText).2.1 (oexB_ok T.x_oex_BadText).2.2 (ok_BadText___init__ (K := K) T) (hr.mono (by decide)) T.b_BadText___init__ .nil pass0 rfl T.g_BadText (pa_cons pe_int pa_nil))))
    pss_nil)
    (pss_one (ps_ret (pe_make (C := He.ga K ("Ratio" : Str)) T.mk_Ratio (ok_Ratio___init__ (K := K) T) (hr.mono (by decide)) rfl T.g_Ratio (B1.2) (B1.1) (passX (takes_of rfl rfl rfl rfl)) (pa_cons (pv 4) (pa_cons (pv 5) pa_nil)))))))))), ?_⟩
    have mono : ∀ (v : V) (σ : St) (H : Hp) (P P' : List V → Hp → Prop), (∀ vs H1, P vs H1 → P' vs H1) → tCons (tC v) tNil σ H P → tCons (tC v) tNil σ H P' := fun v σ H P P' h t => h _ _ t
    obtain ⟨a, m, b, hp, hs⟩ := part_slash x
    walk_at "go"
    refine ⟨rfl, ?_⟩
    walk_at "go"
    refine ⟨by rw [sizeLine_eq]; omega, fun p hpn => ?_⟩
    rw [hp]
    refine ⟨p, _, rfl, SqT.of upd_same, rfl, ?_⟩
    have s1 := same_new (o := .tup [.str a, .str m, .str b]) hpn
    generalize upd H p (.tup [.str a, .str m, .str b]) = H1 at *
    obtain ⟨h, rfl, ha, hb⟩ | ⟨h, rfl, rfl⟩ := hs
    · walk_at "go"
      have lab : a.length ≤ 6000 ∧ b.length ≤ 6000 := by
        have q := congrArg List.length (pre_suf h)
        rw [List.length_append, List.length_cons, ← ha, ← hb, ← str_len, ← str_len, ← str_len] at q
        omega
      refine ⟨lab.1, fun t ht => ?_, fun hn d H' e hd hxd => kb ?_ d H' (s1.trans e) (none_back s1 hd) hxd⟩
      · walk_at "go"
        refine ⟨fun u hu => ?_, fun hn d H' e hd hxd => kb ?_ d H' (s1.trans e) (none_back s1 hd) hxd⟩
        · have rd : readR x.cps.toList = pairR (some t) (some u) := by
            unfold readR
            rw [if_pos h, ← ha, ← hb]
            rw [show readI a.cps.toList = some t from ht, show readI b.cps.toList = some u from hu]
          have bad : ¬ (2 ≤ u ∧ Nat.gcd t.natAbs u.natAbs = 1) → ∀ (σ : St), tMkO (He.ga K "BadText") (spExc K (He.ga K "BadText") "at" okIx) [] (tCons (tC (V.int 0)) tNil) σ H1 fun cls d H' => E cls d H' := by
            intro hn σ
            refine r_raiseE (ok := okIx) ?_ (mono _ _ _)
            refine ⟨_, rfl, ⟨0, rfl, by decide⟩, fun d hd => kb ?_ d _ (s1.trans (same_new hd)) (none_back s1 hd) upd_same⟩
            rw [rd]
            exact if_neg hn
          walk_at "go"
          refine ite_d (fun c => ?_) (fun c => ?_)
          · exact bad (fun z => by omega) _
          · walk_at "go"
            refine ite_nd (fun c2 => ?_) (fun c2 => ?_)
            · exact bad (fun z => c2 (congrArg V.int (congrArg Int.ofNat z.2))) _
            · have c3 : Nat.gcd t.natAbs u.natAbs = 1 := Int.ofNat.inj (vint_inj c2)
              walk_at "go"
              intro z dx nz ndx _
              refine made_at2 (K := K) nz ndx ⟨by omega, c3⟩ (fun H4 e4 rx => ?_)
              refine kg t u ?_ z H4 (s1.trans e4) rx
              rw [rd]
              exact if_pos ⟨by omega, c3⟩
        · unfold readR
          rw [if_pos h, ← ha, ← hb]
          rw [show readI a.cps.toList = some t from ht, show readI b.cps.toList = none from hn] <;> rfl
      · unfold readR
        rw [if_pos h, ← ha, hn] <;> rfl
    · walk_at "go"
      refine ⟨fun t ht => ?_, fun hn d H' e hd hxd => kb ?_ d H' (s1.trans e) (none_back s1 hd) hxd⟩
      · walk_at "go"
        intro z dx nz ndx _
        refine made_at2 (K := K) nz ndx (low_one t) (fun H4 e4 rx => ?_)
        refine kg t 1 ?_ z H4 (s1.trans e4) rx
        unfold readR
        rw [if_neg h, show readI a.cps.toList = some t from ht] <;> rfl
      · unfold readR
        rw [if_neg h, hn] <;> rfl
end
section
open NumText TL
variable {P : Program} {w : World} {K : PySem.W.Frag} {mg : Str → Option Value} {base : Heap}
/-! ### the law's telling of a text -/
def spTold4 (K : PySem.W.Frag) : Sp := fun vs H Q _ => ∃ x : Str, vs = [.str x] ∧ x.length ≤ 6000 ∧ (∀ n d, readR x.cps.toList = some (n, d) → ∀ p H', Same H H' → RatAt K H' p n d → Q (.ref p) H') ∧
  (readR x.cps.toList = none → ∀ H', Same H H' → Q (.str "bad") H')
theorem ok__law_told (T : Top w K mg) : FnOk P w K mg base CX0 5 (He.ga K ("_law_told" : Str)) (fdOf K d__law_told) ["line"] (spTold4 K) := by
  refine (T.f__law_told).ok sc__law_told (fun vs H Q E h => ?_) (fun cdv A outer s H vs Q E hr h => ?_)
  · obtain ⟨x, rfl, _⟩ := h
    rfl
  · obtain ⟨x, rfl, hx, kg, kb⟩ := h
    refine ⟨_, PSs.nox (pss_cons (ps_try_as (i := 2) (Wout := fun _ _ _ _ => False) rfl rfl sc__law_told.nd rfl rfl ⟨rfl, by decide, .inl T.g_BadText⟩ takes0
    (fun W pn xe tk _ => (pss_cons (ps_set (i := 1) sc__law_told.nd rfl (Or.inl rfl) (pe_callS (ok_read_ratio (K := K) T) (hr.mono (by decide)) rfl T.g_read_ratio T.f_read_ratio.kp T.b_read_ratio (fun σ => passAt tk σ) (pa_cons (pv 0) pa_nil)))
    (pss_one (ps_if (pt_val (pe_callB (id := "isinstance") (call_isiK' (K := K) rfl) (by rfl) T.n_isinstance (by decide +kernel) (pa_cons (pv 1) (pa_cons (pe_glob (v := .ref (He.ga K ("Ratio" : Str))) rfl T.g_Ratio rfl) pa_nil))))
    (pss_one (ps_ret (pv 1)))
    pss_nil))))
    (fun a oe cls d pn hz hf => (pss_given (P := cls = .ref (He.ga K ("BadText" : Str))) fun q => (pss_one (ps_if (pt_cmpR op_eq (pe_xf (xfB_ok T.x_xfr_BadText) (He.eqO_ok T.x_xf_BadText_at) hz hf (pv 2)) pe_int (nomark _))
    (pss_one (ps_ret pe_str))
    pss_nil)))))
    (pss_one (ps_ret pe_str))), ?_⟩
    walk_at "go"
    refine ⟨fun n d hn p H' e1 r => ?_, fun hn d H' e1 nd hd => ?_⟩
    · walk_at "go"
      refine r_isiRat T r ?_
      walk_at "go"
      exact kg n d hn p H' e1 r
    · refine ⟨true, T.exm_BadText_BadText, fun _ a ha => ⟨rfl, ?_⟩, fun q => Bool.noConfusion q⟩
      walk_at "go"
      refine ⟨rfl, rfl, d, _, _, rfl, hd, rfl, ?_⟩
      walk_at "go"
      exact kb hn H' e1
end
section
open NumText TL
variable {P : Program} {w : World} {K : PySem.W.Frag} {mg : Str → Option Value} {base : Heap}
/-! ### the law's reading of digits -/
def plainI (T : List Nat) : Option Nat := if T ≠ [] ∧ T.all isDg = true then (if 1 < T.length ∧ T.head? = some 48 then none else some (digitsVal T)) else none
theorem in_digits (c : Nat) : (!!(Builtin.Str.occurrences (Str.ofString "0123456789") ⟨#[c]⟩ 0 (Str.ofString "0123456789").length 1).isEmpty) = !isDg c := by
  rw [PySem.StrLaws.found_one, show (Str.ofString "0123456789").cps.toList = [48, 49, 50, 51, 52, 53, 54, 55, 56, 57] from by decide +kernel]
  unfold isDg
  rw [← Bool.decide_and]
  congr 1
  refine decide_eq_decide.mpr ?_
  simp only [List.mem_cons, List.not_mem_nil, or_false]
  omega
theorem at_digits : ∀ k : Fin 10, Txt.index0 (Str.ofString "0123456789") ⟨#[48 + k.val]⟩ = some k.val := by decide +kernel
def optV : Option Nat → V
  | none => .non
  | some v => .int (v : Int)
def spPlain : Sp := fun vs H Q _ => ∃ x : Str, vs = [.str x] ∧ x.length ≤ 6000 ∧ ∀ H', Same H H' → Q (optV (plainI x.cps.toList)) H'
theorem ok__law_plain (T : Top w K mg) : FnOk P w K mg base CX0 1 (He.ga K ("_law_plain" : Str)) (fdOf K d__law_plain) ["line"] spPlain := by
  refine (T.f__law_plain).ok sc__law_plain (fun vs H Q E h => ?_) (fun cdv A outer s H vs Q E hr h => ?_)
  · obtain ⟨x, rfl, _⟩ := h
    rfl
  · obtain ⟨x, rfl, hx, k⟩ := h
    have kg : ∀ v : Nat, plainI x.cps.toList = some v → ∀ H', Same H H' → Q (.int (v : Int)) H' := fun v hv H' e => by
      have z := k H' e
      rw [hv] at z
      exact z
    have kb : plainI x.cps.toList = none → ∀ H', Same H H' → Q .non H' := fun hv H' e => by
      have z := k H' e
      rw [hv] at z
      exact z
    have lx : x.length ≤ sizeLine := by rw [sizeLine_eq]; omega
    refine ⟨_, PSs.nox (C8.pss_cut (ps_if (PW.pt (pw_or (pt_cmpR op_eq (pe_callB call_len_str (by rfl) T.n_len PySem.boot_len (pa_cons (pv 0) pa_nil)) pe_int (nomark _)) (pw_or1 (pt_cmpR op_gt (pe_callB (call_lenK (K := K) rfl) (by rfl) T.n_len PySem.boot_len (pa_cons (pe_lc (own := [(("sign" : Str), 1)]) (g := (gName 1)) rfl sc__law_plain.nd (pi_str (pv 0)) (blkOk_by (N := ["line", "sign", "value"]) (sc := defScope s__law_plain) (by decide +kernel)) (fun _ _ _ _ _ => (pg_name (i := 1) sc__law_plain.nd rfl (Or.inl rfl))) (fun _ _ _ _ _ => pts_one (pt_cmpR op_notin_str (pv 1) pe_str (by rfl))) (fun _ _ _ _ _ => (pv 1))) pa_nil)) pe_int (nomark _)))))
    (pss_one (ps_ret pe_non))
    pss_nil)
    (C8.pss_cut (ps_if (PW.pt (pw_and (pt_cmpR op_gt (pe_callB call_len_str (by rfl) T.n_len PySem.boot_len (pa_cons (pv 0) pa_nil)) pe_int (nomark _)) (pw_and1 (pt_cmpR op_eq (pe_ix ix_str (pv 0) pe_int (fun _ _ => rfl)) pe_str (nomark _)))))
    (pss_one (ps_ret pe_non))
    pss_nil)
    (pss_cons (ps_set (i := 2) sc__law_plain.nd rfl (Or.inl rfl) pe_int)
    (pss_cons (ps_for PassesOwn.never rfl (pi_str (pv 0)) (pg_name (i := 1) sc__law_plain.nd rfl (Or.inl rfl))
    (pss_one (ps_set (i := 2) sc__law_plain.nd rfl (Or.inl rfl) (pe_op op_add (pe_op op_mulW (pv 2) pe_int) (pe_bmS PySem.F.plainAttrs_str PySem.F.slot_str_index PySem.F.type_str_index (mt_indexX rfl takes0) pe_str (pa_cons (pv 1) pa_nil))))))
    (pss_one (ps_ret (pv 2))))))), ?_⟩
    have el := str_len x
    refine r_cut (fun σ H' => Same H H' ∧ σ = [some (.str x), none, none] ∧ x.cps.toList ≠ [] ∧ x.cps.toList.all isDg = true) ?_ ?_
    · walk_at "go"
      refine ite_d (fun c => ?_) (fun c => ?_)
      · walk_at "go"
        refine kb ?_ H (Same.refl _)
        unfold plainI
        rw [if_neg]
        have c1 := vint_inj c
        exact fun t => t.1 (List.eq_nil_of_length_eq_zero (by omega))
      · have ne : x.cps.toList ≠ [] := fun t => c (by rw [el, t]; rfl)
        walk_at "go"
        intro D hD
        refine lc_it walk_str (fun i H' => ∃ acc, H' = upd H D (.lst acc) ∧ acc.length = ((x.cps.toList.take i).filter fun c => !isDg c).length) ⟨[], rfl, rfl⟩ (fun _ _ _ _ => trivial) ?_ ?_
        · rintro i v H1 H2 hi ⟨acc, rfl, ha⟩ ⟨rfl, c, hc, rfl⟩
          have hc' : x.cps.toList[i]? = some c := by rw [Array.getElem?_toList]; exact hc
          have et : x.cps.toList.take (i + 1) = x.cps.toList.take i ++ [c] := by
            rw [List.take_succ, hc']
            rfl
          refine ⟨rfl, ?_⟩
          walk_at "go"
          rw [in_digits c]
          cases q : isDg c
          · walk_at "go"
            refine ⟨acc, upd_same, ?_, acc ++ [_], upd_upd, ?_⟩
            · rw [ha, sizeLine_eq]
              have h1 := List.length_filter_le (fun c => !isDg c) (x.cps.toList.take i)
              have h2 : (x.cps.toList.take i).length ≤ x.cps.toList.length := by rw [List.length_take]; omega
              omega
            · rw [List.length_append, et, List.filter_append, List.length_append, ha, List.filter_cons_of_pos (by rw [q]; rfl)]
              rfl
          · walk_at "go"
            rw [et, List.filter_append, List.length_append, ha, List.filter_cons_of_neg (by rw [q]; decide)]
            rfl
        · rintro H1 ⟨acc, rfl, ha⟩
          have e2 : Same H (upd H D (.lst acc)) := same_new hD
          have et : x.cps.toList.take x.cps.size = x.cps.toList := List.take_of_length_le (by rw [Array.length_toList]; exact Nat.le_refl _)
          rw [et] at ha
          walk_at "go"
          refine ⟨D, acc, rfl, .inl (SqL.of upd_same), ?_⟩
          walk_at "go"
          by_cases q : x.cps.toList.all isDg = true
          · have z : acc.length = 0 := by
              rw [ha, List.length_eq_zero_iff, List.filter_eq_nil_iff]
              intro c hc
              rw [List.all_eq_true.mp q c hc]
              decide
            rw [z, decide_eq_false (by decide)]
            walk_at "go"
            exact ⟨rfl, ne, q⟩
          · have z : 0 < acc.length := by
              rw [ha]
              refine Nat.pos_of_ne_zero fun t => q ?_
              rw [List.length_eq_zero_iff, List.filter_eq_nil_iff] at t
              refine List.all_eq_true.mpr fun c hc => ?_
              have := t c hc
              cases w : isDg c
              · rw [w] at this
                exact absurd rfl this
              · rfl
            rw [decide_eq_true (by omega)]
            walk_at "go"
            refine kb ?_ _ e2
            unfold plainI
            rw [if_neg fun t => q t.2]
    · rintro σ H1 ⟨e1, rfl, ne, al⟩
      refine r_cut (fun σ H' => Same H H' ∧ σ = [some (.str x), none, none] ∧ ¬ (1 < x.cps.toList.length ∧ x.cps.toList.head? = some 48)) ?_ ?_
      · obtain ⟨c0, r0, hc0⟩ : ∃ c r, x.cps.toList = c :: r := by
          cases h : x.cps.toList with
          | nil => exact absurd h ne
          | cons c r => exact ⟨c, r, rfl⟩
        walk_at "go"
        refine ite_d (fun c => ?_) (fun c => ?_)
        · walk_at "go"
          refine ⟨x, _, _, rfl, rfl, lx, atI_nat (j := 0) (show x.cps.toList[0]? = some c0 by rw [hc0]; rfl), ?_⟩
          walk_at "go"
          rw [sign_str (y := ⟨#[c0]⟩) rfl (k := 48) (by decide +kernel)]
          refine ite_d (fun d => ?_) (fun d => ?_)
          · walk_at "go"
            refine kb ?_ _ e1
            unfold plainI
            rw [if_pos ⟨ne, al⟩, if_pos ⟨by omega, by rw [hc0, d]; rfl⟩]
          · walk_at "go"
            refine ⟨rfl, fun t => d ?_⟩
            have t := t.2
            rw [hc0] at t
            exact Option.some.inj t
        · walk_at "go"
          exact ⟨rfl, fun t => c (by omega)⟩
      · rintro σ H1 ⟨e1, rfl, nz⟩
        have al' := dg_all.mp al
        have kg := kg _ (by unfold plainI; rw [if_pos ⟨ne, al⟩, if_neg nz]) H1 e1
        walk_at "go"
        refine for_it walk_str (fun i σ H' => H' = H1 ∧ ∃ v : Option V, σ = [some (.str x), v, some (.int ((digitsVal (x.cps.toList.take i) : Nat) : Int))]) ⟨rfl, _, rfl⟩ (fun _ _ _ _ _ => trivial) ?_ ?_
        · rintro i v σ H2 H3 hi ⟨rfl, av, rfl⟩ ⟨rfl, c, hc, rfl⟩
          have hc' : x.cps.toList[i]? = some c := by rw [Array.getElem?_toList]; exact hc
          have et : x.cps.toList.take (i + 1) = x.cps.toList.take i ++ [c] := by
            rw [List.take_succ, hc']
            rfl
          have cd := al' c (List.mem_of_getElem? hc')
          obtain ⟨k, rfl⟩ : ∃ k : Fin 10, c = 48 + k.val := ⟨⟨c - 48, by omega⟩, by show c = 48 + (c - 48); omega⟩
          have hk := k.isLt
          walk_at "go"
          refine ⟨Bits.mulW (val_bits (all_take al' _) (by rw [List.length_take]; omega)) (Bits.small (i := 10) (b := 64) (by decide) (by decide)) (by decide), ?_⟩
          walk_at "go"
          refine ⟨rfl, ?_⟩
          walk_at "go"
          refine ⟨fun j hj => ?_, fun hj => ?_⟩
          · rw [at_digits k] at hj
            obtain rfl := Option.some.inj hj
            walk_at "go"
            have e1 := val_app (x.cps.toList.take i) [48 + k.val]
            rw [val_one, List.length_singleton, Nat.pow_one, Nat.add_sub_cancel_left, ← et] at e1
            refine ⟨rfl, some (.str ⟨#[48 + k.val]⟩), ?_⟩
            rw [e1]
            rfl
          · rw [at_digits k] at hj
            cases hj
        · rintro σ H2 ⟨rfl, av, rfl⟩
          have et : x.cps.toList.take x.cps.size = x.cps.toList := List.take_of_length_le (by rw [Array.length_toList]; exact Nat.le_refl _)
          rw [et]
          walk_at "go"
          exact kg
end
section
open NumText TL
variable {P : Program} {w : World} {K : PySem.W.Frag} {mg : Str → Option Value} {base : Heap}
/-! ### the law's reading of a fraction -/
def sgR (neg : Prop) [Decidable neg] : Option Nat → Option Int
  | none => none
  | some v => if neg then (if v = 0 then none else some (-(v : Int))) else some (v : Int)
theorem plain_ne {V : List Nat} (h : V.head? = some 45) : plainI V = none := by
  unfold plainI
  rw [if_neg]
  intro t
  cases V with
  | nil => cases h
  | cons c r =>
    obtain rfl := Option.some.inj h
    exact absurd (List.all_eq_true.mp t.2 45 (List.mem_cons_self ..)) (by decide)
theorem plain_slash {V : List Nat} (h : 47 ∈ V) : plainI V = none := by
  unfold plainI
  rw [if_neg]
  intro t
  exact absurd (List.all_eq_true.mp t.2 47 h) (by decide)
theorem read_plain (V : List Nat) : readI V = sgR (V.head? = some 45) (plainI (unsign V)) := by
  by_cases h : unsign V ≠ [] ∧ (unsign V).all isDg = true
  · have ad := dg_all.mp h.2
    by_cases z : (unsign V).head? = some 48 ∧ V ≠ [48]
    · rw [readI_zero z]
      unfold plainI
      rw [if_pos h]
      by_cases l : 1 < (unsign V).length
      · rw [if_pos ⟨l, z.1⟩]
        rfl
      · rw [if_neg fun t => l t.1]
        have e : unsign V = [48] := by
          cases q : unsign V with
          | nil => exact absurd q h.1
          | cons c r =>
            rw [q] at z l
            have hr : r = [] := List.eq_nil_of_length_eq_zero (by rw [List.length_cons] at l; omega)
            rw [hr, Option.some.inj z.1]
        have hv : V.head? = some 45 := Classical.byContradiction fun t => by
          unfold unsign at e
          rw [if_neg t] at e
          exact z.2 e
        rw [e]
        show none = (if V.head? = some 45 then _ else _)
        rw [if_pos hv, if_pos (by decide)]
    · rw [readI_ok h.1 h.2 z]
      unfold plainI
      rw [if_pos h]
      have nz : ¬ (1 < (unsign V).length ∧ (unsign V).head? = some 48) := fun t => z ⟨t.2, fun q => by
        rw [q] at t
        exact absurd t.1 (by decide)⟩
      rw [if_neg nz]
      show _ = (if V.head? = some 45 then _ else _)
      by_cases hv : V.head? = some 45
      · rw [if_pos hv, if_pos hv, if_neg]
        intro t
        have h48 : (unsign V).head? ≠ some 48 := fun q => z ⟨q, fun e => by rw [e] at hv; cases hv⟩
        have nl : NoLead (unsign V) := ⟨h.1, fun q => absurd q h48⟩
        have := num_uniq _ rfl ad nl
        rw [t, numL_lt (by decide)] at this
        rw [this] at h48
        exact h48 rfl
      · rw [if_neg hv, if_neg hv]
  · have b : (!(unsign V).isEmpty && (unsign V).all isDg) = false := by
      rw [Bool.eq_false_iff]
      intro t
      have t := Bool.and_eq_true_iff.mp t
      exact h ⟨fun q => by rw [q] at t; exact absurd t.1 (by decide), t.2⟩
    rw [readI_bad b]
    unfold plainI
    rw [if_neg h]
    rfl
end
section
open NumText TL
variable {P : Program} {w : World} {K : PySem.W.Frag} {mg : Str → Option Value} {base : Heap}
def mapC (o : Option Nat) : Option Int := o.map fun v => (v : Int)
theorem pair_none (t : Option Int) : pairR t none = none := by cases t <;> rfl
theorem pairR_plain (t : Option Int) (B : List Nat) : pairR t (readI B) = pairR t (mapC (plainI B)) := by
  rw [read_plain]
  by_cases h : B.head? = some 45
  · rw [plain_ne h]
    cases q : plainI (unsign B) with
    | none => rfl
    | some v =>
      show pairR t (if B.head? = some 45 then (if v = 0 then none else some (-(v : Int))) else some (v : Int)) = pairR t none
      rw [if_pos h, pair_none]
      by_cases z : v = 0
      · rw [if_pos z, pair_none]
      · rw [if_neg z]
        cases t with
        | none => rfl
        | some t =>
          show (if 2 ≤ -(v : Int) ∧ _ then _ else none) = none
          rw [if_neg fun c => by omega]
  · have e : unsign B = B := by unfold unsign; rw [if_neg h]
    rw [e]
    cases plainI B with
    | none => rfl
    | some v =>
      show pairR t (if B.head? = some 45 then _ else some (v : Int)) = _
      rw [if_neg h]
      rfl
theorem un_cases (T : List Nat) : (47 ∈ T ↔ 47 ∈ unsign T) ∧ unsign (preL T) = preL (unsign T) ∧ ((preL T).head? = some 45 ↔ T.head? = some 45) ∧ sufL T = sufL (unsign T) := by
  cases T with
  | nil => exact ⟨Iff.rfl, rfl, Iff.rfl, rfl⟩
  | cons c r =>
    by_cases h : c = 45
    · subst h
      have e1 : preL (45 :: r) = 45 :: preL r := rfl
      refine ⟨?_, ?_, ?_, ?_⟩
      · show 47 ∈ 45 :: r ↔ 47 ∈ r
        simp
      · rw [e1]
        rfl
      · rw [e1]
        exact ⟨fun _ => rfl, fun _ => rfl⟩
      · unfold sufL
        rw [e1]
        rfl
    · have hn : ¬ (c :: r).head? = some 45 := fun t => h (Option.some.inj t)
      have e : unsign (c :: r) = c :: r := by unfold unsign; rw [if_neg hn]
      rw [e]
      have hp : ¬ (preL (c :: r)).head? = some 45 := by
        unfold preL
        rw [List.takeWhile_cons]
        split
        · exact fun t => h (Option.some.inj t)
        · exact fun t => nomatch t
      refine ⟨Iff.rfl, ?_, ⟨fun t => absurd t hp, fun t => absurd t hn⟩, rfl⟩
      unfold unsign
      rw [if_neg hp]
theorem readR_plain (T : List Nat) : readR T = if 47 ∈ unsign T then pairR (sgR (T.head? = some 45) (plainI (preL (unsign T)))) (mapC (plainI (sufL (unsign T)))) else (sgR (T.head? = some 45) (plainI (unsign T))).map fun n => (n, 1) := by
  obtain ⟨h1, h2, h3, h4⟩ := un_cases T
  unfold readR
  by_cases h : 47 ∈ T
  · rw [if_pos h, if_pos (h1.mp h), pairR_plain, read_plain (preL T), h2, h4]
    congr 1
    by_cases q : T.head? = some 45
    · cases plainI (preL (unsign T)) with
      | none => rfl
      | some v =>
        unfold sgR
        simp only []
        rw [if_pos q, if_pos (h3.mpr q)]
    · cases plainI (preL (unsign T)) with
      | none => rfl
      | some v =>
        unfold sgR
        simp only []
        rw [if_neg q, if_neg fun t => q (h3.mp t)]
  · rw [if_neg h, if_neg fun t => h (h1.mpr t), read_plain]
theorem split_cases (y : Str) : (47 ∉ y.cps.toList ∧ ∃ a, Txt.split y (Str.ofString "/") = [a] ∧ a.cps.toList = y.cps.toList) ∨
    (47 ∈ y.cps.toList ∧ 47 ∉ sufL y.cps.toList ∧ ∃ a b, Txt.split y (Str.ofString "/") = [a, b] ∧ a.cps.toList = preL y.cps.toList ∧ b.cps.toList = sufL y.cps.toList) ∨
    (47 ∈ y.cps.toList ∧ 47 ∈ sufL y.cps.toList ∧ ∃ a b c r, Txt.split y (Str.ofString "/") = a :: b :: c :: r ∧ a.cps.toList = preL y.cps.toList) := by
  have ey : tl (Str.ofString "/") = 47 :: [] := by decide +kernel
  have e := split_spl y (Str.ofString "/") (by rw [ey]; simp) (kind_ok (by decide +kernel))
  rw [ey] at e
  generalize Txt.split y (Str.ofString "/") = ps at *
  have one : ∀ U : List Nat, 47 ∈ U → spl [47] 0 [] U = preL U :: spl [47] 0 [] (sufL U) := fun U h => by
    have z := spl_part1 (S := []) (rest := sufL U) (acc := []) (pre_free U)
    have q := pre_suf h
    rw [show preL U ++ (47 :: [] ++ sufL U) = U from q.symm] at z
    exact z
  by_cases h : 47 ∈ y.cps.toList
  · right
    rw [one _ h] at e
    by_cases g : 47 ∈ sufL y.cps.toList
    · right
      rw [one _ g] at e
      refine ⟨h, g, ?_⟩
      have ne : ∀ U : List Nat, spl [47] 0 [] U ≠ [] := fun U => by
        by_cases k : 47 ∈ U
        · rw [one _ k]
          exact List.cons_ne_nil _ _
        · rw [spl_last1 k]
          exact List.cons_ne_nil _ _
      cases q : spl [47] 0 [] (sufL (sufL y.cps.toList)) with
      | nil => exact absurd q (ne _)
      | cons u us =>
        rw [q] at e
        match ps, e with
        | [], e => exact absurd (congrArg List.length e) (by simp)
        | [_], e => exact absurd (congrArg List.length e) (by simp)
        | [_, _], e => exact absurd (congrArg List.length e) (by simp)
        | a :: b :: c :: r, e => exact ⟨a, b, c, r, rfl, (List.cons.inj e).1⟩
    · left
      rw [spl_last1 g] at e
      refine ⟨h, g, ?_⟩
      match ps, e with
      | [], e => exact absurd (congrArg List.length e) (by simp)
      | [_], e => exact absurd (congrArg List.length e) (by simp)
      | a :: b :: c :: r, e => exact absurd (congrArg List.length e) (by simp)
      | [a, b], e => exact ⟨a, b, rfl, (List.cons.inj e).1, (List.cons.inj (List.cons.inj e).2).1⟩
  · left
    rw [spl_last1 h] at e
    refine ⟨h, ?_⟩
    match ps, e with
    | [], e => exact absurd (congrArg List.length e) (by simp)
    | a :: b :: r, e => exact absurd (congrArg List.length e) (by simp)
    | [a], e => exact ⟨a, rfl, (List.cons.inj e).1⟩
theorem plain_bits {L : List Nat} {v : Nat} (h : plainI L = some v) (hl : L.length ≤ 2000) : Bits 8000 (v : Int) := by
  unfold plainI at h
  split at h
  · rename_i q
    split at h
    · cases h
    · obtain rfl := Option.some.inj h
      have h1 := val_lt (dg_all.mp q.2)
      have h2 : 10 ^ L.length ≤ 10 ^ 2000 := Nat.pow_le_pow_right (by decide) hl
      have h3 : 10 ^ 2000 < 2 ^ 8000 := by decide +kernel
      show (((digitsVal L : Nat) : Int)).natAbs < 2 ^ 8000
      have h4 : (((digitsVal L : Nat) : Int)).natAbs = digitsVal L := rfl
      rw [h4]
      exact Nat.lt_trans (Nat.lt_of_lt_of_le h1 h2) h3
  · cases h
theorem low_iff {n u : Int} (h : 0 < u) : (pn n u = n ∧ pd n u = u) ↔ Nat.gcd n.natAbs u.natAbs = 1 := by
  refine ⟨fun t => ?_, fun t => ⟨pn_low ⟨h, t⟩, pd_low ⟨h, t⟩⟩⟩
  have l := low_of (n := n) (d := u) (Int.ne_of_gt h)
  rw [t.1, t.2] at l
  exact l.cop
theorem eqv_pair (a b c d : Int) : PyData.eqv (.tuple [.int a, .int b]) (.tuple [.int c, .int d]) = (a == c && (b == d && true)) := rfl
theorem cut_head (x : Str) (f : Nat) : (cutS x none (some (f : Int))).cps.toList = x.cps.toList.take f := by
  by_cases h : f ≤ x.length
  · exact cut_to x h
  · have el := str_len x
    unfold cutS
    rw [HT.sIx_nat, HT.sIx_none, Nat.min_eq_right (by omega), List.drop_zero, Nat.sub_zero, List.take_of_length_le (by omega), List.take_of_length_le (by omega)]
theorem cut_tail (x : Str) (f : Nat) : (cutS x (some (f : Int)) none).cps.toList = x.cps.toList.drop f := by
  have el := str_len x
  unfold cutS
  rw [HT.sIx_nat, HT.sIx_none]
  by_cases h : f ≤ x.length
  · rw [Nat.min_eq_left h, List.take_of_length_le (by rw [List.length_drop]; omega)]
  · rw [Nat.min_eq_right (by omega), List.drop_of_length_le (by omega), List.drop_of_length_le (by omega), List.take_nil]
def lenR (ps : Nat) (neg : Prop) [Decidable neg] (a0 dO : Option Nat) : Option (Int × Int) := if ps ≤ 2 then (if ps = 2 then pairR (sgR neg a0) (mapC dO) else (sgR neg a0).map fun n => (n, 1)) else none
theorem lenR_none (m : Nat) (neg : Prop) [Decidable neg] (dO : Option Nat) : lenR m neg none dO = none := by
  unfold lenR
  split
  · split <;> rfl
  · rfl
theorem lenR_some {m : Nat} (neg : Prop) [Decidable neg] {v u : Nat} (hm : m ≤ 2) (h2 : m ≠ 2 → u = 1) (hu : 0 < u) (h1 : ¬ (m = 2 ∧ u = 1)) (hz : ¬ (v = 0 ∧ neg)) :
    lenR m neg (some v) (some u) = if Nat.gcd ((if neg then -1 else 1) * (v : Int)).natAbs (u : Int).natAbs = 1 then some ((if neg then -1 else 1) * (v : Int), (u : Int)) else none := by
  have e : sgR neg (some v) = some ((if neg then -1 else 1) * (v : Int)) := by
    show (if neg then _ else _) = _
    by_cases q : neg
    · rw [if_pos q, if_pos q, if_neg fun t => hz ⟨t, q⟩, Int.neg_one_mul]
    · rw [if_neg q, if_neg q, Int.one_mul]
  unfold lenR
  rw [if_pos hm, e]
  by_cases q : m = 2
  · rw [if_pos q]
    show (if 2 ≤ (u : Int) ∧ _ then _ else none) = _
    have u2 : 2 ≤ (u : Int) := by
      have : u ≠ 1 := fun t => h1 ⟨q, t⟩
      omega
    by_cases g : Nat.gcd ((if neg then -1 else 1) * (v : Int)).natAbs (u : Int).natAbs = 1
    · rw [if_pos ⟨u2, g⟩, if_pos g]
    · rw [if_neg fun t => g t.2, if_neg g]
  · have hu1 := h2 q
    subst hu1
    rw [if_neg q, if_pos (show Nat.gcd ((if neg then -1 else 1) * (v : Int)).natAbs ((1 : Nat) : Int).natAbs = 1 from Nat.gcd_one_right _)]
    rfl
theorem vneq {a b : Int} (h : ¬ V.int a = V.int b) : ¬ a = b := fun t => h (congrArg V.int t)
theorem pair_small (t : Option Int) {u : Int} (h : u < 2) : pairR t (some u) = none := by
  cases t with
  | none => rfl
  | some t => exact if_neg fun c => by omega
theorem lenR_small {m u : Nat} (neg : Prop) [Decidable neg] (a0 : Option Nat) (hm : m = 2) (h : u < 2) : lenR m neg a0 (some u) = none := by
  unfold lenR
  rw [if_pos (by omega), if_pos hm]
  exact pair_small _ (show (u : Int) < 2 by omega)
theorem lenR_zero (m : Nat) {neg : Prop} [Decidable neg] (h : neg) (dO : Option Nat) : lenR m neg (some 0) dO = none := by
  have e : sgR neg (some 0) = none := by
    show (if neg then _ else _) = _
    rw [if_pos h, if_pos rfl]
  unfold lenR
  rw [e]
  split
  · split <;> rfl
  · rfl
def spLRead (K : PySem.W.Frag) : Sp := fun vs H Q _ => ∃ x : Str, vs = [.str x] ∧ x.length ≤ 2000 ∧ (∀ n d, readR x.cps.toList = some (n, d) → ∀ p H', Same H H' → H' p = some (.tup [.int n, .int d]) → Q (.ref p) H') ∧
  (readR x.cps.toList = none → ∀ H', Same H H' → Q .non H')
theorem ok__law_read (T : Top w K mg) : FnOk P w K mg base CX0 2 (He.ga K ("_law_read" : Str)) (fdOf K d__law_read) ["line"] (spLRead K) := by
  refine (T.f__law_read).ok sc__law_read (fun vs H Q E h => ?_) (fun cdv A outer s H vs Q E hr h => ?_)
  · obtain ⟨x, rfl, _⟩ := h
    rfl
  · obtain ⟨x, rfl, hx, kg, kb⟩ := h
    have lx : x.length ≤ sizeLine := by rw [sizeLine_eq]; omega
    have hR := readR_plain x.cps.toList
    refine ⟨_, PSs.nox (pss_cons (ps_set (i := 1) sc__law_read.nd rfl (Or.inl rfl) pe_int)
    (C8.pss_cut (ps_if (pt_cmpR op_eq (pe_slice sl_str (pv 0) po_none (po_some pe_int)) pe_str (nomark _))
    (pss_cons (ps_set (i := 1) sc__law_read.nd rfl (Or.inl rfl) (pe_un un_neg pe_int))
    (pss_one (ps_set (i := 0) sc__law_read.nd rfl (Or.inl rfl) (pe_slice sl_str (pv 0) (po_some pe_int) po_none))))
    pss_nil)
    (pss_cons (ps_set (i := 2) sc__law_read.nd rfl (Or.inl rfl) (pe_bm PySem.F.plainAttrs_str PySem.F.slot_str_split PySem.F.type_str_split mt_split (pv 0) (pa_cons pe_str pa_nil)))
    (pss_cons (ps_set (i := 3) sc__law_read.nd rfl (Or.inl rfl) (pe_call (ok__law_plain (K := K) T) (hr.mono (by decide)) rfl T.g__law_plain T.f__law_plain.kp T.b__law_plain .nil pass0 (pa_cons (pe_ix (ix_listK (K := K) rfl) (pv 2) pe_int (fun _ _ => rfl)) pa_nil)))
    (pss_cons (ps_set (i := 4) sc__law_read.nd rfl (Or.inl rfl) pe_int)
    (C8.pss_cut (ps_if (pt_cmpR op_eq (pe_callB (call_lenK (K := K) rfl) (by rfl) T.n_len PySem.boot_len (pa_cons (pv 2) pa_nil)) pe_int (nomark _))
    (pss_one (ps_set (i := 4) sc__law_read.nd rfl (Or.inl rfl) (pe_call (ok__law_plain (K := K) T) (hr.mono (by decide)) rfl T.g__law_plain T.f__law_plain.kp T.b__law_plain .nil pass0 (pa_cons (pe_ix (ix_listK (K := K) rfl) (pv 2) pe_int (fun _ _ => rfl)) pa_nil))))
    pss_nil)
    (pss_cons (ps_if (PW.pt (pw_or (pt_cmpR op_gt (pe_callB (call_lenK (K := K) rfl) (by rfl) T.n_len PySem.boot_len (pa_cons (pv 2) pa_nil)) pe_int (nomark _)) (pw_or (pt_cmpR op_isN (pv 3) pe_non (nomark _)) (pw_or (pt_cmpR op_isN (pv 4) pe_non (nomark _)) (pw_or (pt_cmpR op_eq (pv 4) pe_int (nomark _)) (pw_or (PW.pt (pw_and (pt_cmpR op_eq (pv 3) pe_int (nomark _)) (pw_and1 (pt_cmpR op_lt (pv 1) pe_int (nomark _))))) (pw_or1 (PW.pt (pw_and (pt_cmpR op_eq (pe_callB (call_lenK (K := K) rfl) (by rfl) T.n_len PySem.boot_len (pa_cons (pv 2) pa_nil)) pe_int (nomark _)) (pw_and1 (pt_cmpR op_eq (pv 4) pe_int (nomark _))))))))))))
    (pss_one (ps_ret pe_non))
    pss_nil)
    (pss_cons (ps_if (pt_cmpR (op_neDK (K := K) rfl hr.units) (pe_call (ok__law_pair (K := K) T) (hr.mono (by decide)) rfl T.g__law_pair T.f__law_pair.kp T.b__law_pair .nil pass0 (pa_cons (pe_op op_mulW (pv 1) (pv 3)) (pa_cons (pv 4) pa_nil))) (pe_tup (pa_cons (pe_op op_mulW (pv 1) (pv 3)) (pa_cons (pv 4) pa_nil))) (nomark _))
    (pss_one (ps_ret pe_non))
    pss_nil)
    (pss_one (ps_ret (pe_tup (pa_cons (pe_op op_mulW (pv 1) (pv 3)) (pa_cons (pv 4) pa_nil))))))))))))), ?_⟩
    walk_at "go"
    have el := str_len x
    refine r_cut (fun σ H' => H' = H ∧ ∃ y : Str, σ = [some (.str y), some (.int (if x.cps.toList.head? = some 45 then -1 else 1)), none, none, none] ∧ y.cps.toList = unsign x.cps.toList ∧ y.length ≤ 2000) ?_ ?_
    · walk_at "go"
      have c1 : (cutS x none (some 1)).cps.toList = x.cps.toList.take 1 := cut_head x 1
      have c2 : (cutS x (some 1) none).cps.toList = x.cps.toList.drop 1 := cut_tail x 1
      have dec : (V.str (cutS x none (some 1)) = V.str (Str.ofString "-")) ↔ x.cps.toList.head? = some 45 := by
        rw [str_codes, c1, show (Str.ofString "-").cps.toList = [45] from by decide +kernel]
        cases x.cps.toList with
        | nil => exact ⟨fun t => (by cases t), fun t => (by cases t)⟩
        | cons c r => exact ⟨fun t => congrArg some (List.cons.inj t).1, fun t => congrArg (fun z => [z]) (Option.some.inj t)⟩
      refine ite_d (fun c => ?_) (fun c => ?_)
      · have c := dec.mp c
        rw [if_pos c]
        walk_at "go"
        refine ⟨rfl, _, rfl, ?_, ?_⟩
        · rw [c2]
          unfold unsign
          rw [if_pos c, List.drop_one]
        · rw [str_len, c2, List.length_drop]
          omega
      · have c : ¬ x.cps.toList.head? = some 45 := fun t => c (dec.mpr t)
        rw [if_neg c]
        walk_at "go"
        refine ⟨rfl, x, rfl, ?_, hx⟩
        unfold unsign
        rw [if_neg c]
    · rintro σ H1 ⟨rfl, y, rfl, hy, ly⟩
      have ely := str_len y
      rw [← hy] at hR
      have sc := split_cases y
      walk_at "go"
      refine ⟨rfl, ?_⟩
      walk_at "go"
      refine ⟨by rw [sizeLine_eq]; omega, fun l hl => ?_⟩
      have e1 := same_new (o := .lst ((Txt.split y (Str.ofString "/")).map V.str)) hl
      have hL : upd H1 l (.lst ((Txt.split y (Str.ofString "/")).map V.str)) l = some (.lst ((Txt.split y (Str.ofString "/")).map V.str)) := upd_same
      generalize upd H1 l (.lst ((Txt.split y (Str.ofString "/")).map V.str)) = H2 at *
      generalize Txt.split y (Str.ofString "/") = ps at *
      have lpre : (preL y.cps.toList).length ≤ y.cps.toList.length := (List.takeWhile_sublist _).length_le
      have lsuf : (sufL y.cps.toList).length ≤ y.cps.toList.length := by unfold sufL; rw [List.length_drop]; omega
      obtain ⟨a, r, rfl, la, hd⟩ : ∃ a r, ps = a :: r ∧ a.length ≤ 2000 ∧ ((r = [] ∧ readR x.cps.toList = lenR 1 (x.cps.toList.head? = some 45) (plainI a.cps.toList) (some 1)) ∨
          (∃ b, r = [b] ∧ b.length ≤ 2000 ∧ readR x.cps.toList = lenR 2 (x.cps.toList.head? = some 45) (plainI a.cps.toList) (plainI b.cps.toList)) ∨ (∃ b c q, r = b :: c :: q ∧ readR x.cps.toList = none)) := by
        obtain ⟨n, a, rfl, h⟩ | ⟨n, _, a, b, rfl, h, g⟩ | ⟨n, m, a, b, c, r, rfl, h⟩ := sc
        · refine ⟨_, _, rfl, by rw [str_len, h]; omega, .inl ⟨rfl, ?_⟩⟩
          rw [hR, if_neg n, h]
          rfl
        · refine ⟨_, _, rfl, by rw [str_len, h]; omega, .inr (.inl ⟨b, rfl, by rw [str_len, g]; omega, ?_⟩)⟩
          rw [hR, if_pos n, h, g]
          rfl
        · refine ⟨_, _, rfl, by rw [str_len, h]; omega, .inr (.inr ⟨b, c, r, rfl, ?_⟩)⟩
          rw [hR, if_pos n, plain_slash m]
          exact pair_none _
      walk_at "go"
      refine r_ixL (v := .str a) (SqL.of hL) (atI_nat (j := 0) rfl) ?_
      walk_at "go"
      intro H3 e3
      have hL3 := e3 _ _ hL
      have e13 := e1.trans e3
      have ba : ∀ v, plainI a.cps.toList = some v → Bits 8000 (v : Int) := fun v h => plain_bits h (by rw [← str_len]; exact la)
      clear hR sc
      generalize plainI a.cps.toList = a0 at *
      walk_at "go"
      refine r_cut (fun σ H' => ∃ dO : Option Nat, Same H1 H' ∧ H' l = some (.lst ((a :: r).map V.str)) ∧ σ = [some (.str y), some (.int (if x.cps.toList.head? = some 45 then -1 else 1)), some (.ref l), some (optV a0), some (optV dO)] ∧
        readR x.cps.toList = lenR (a :: r).length (x.cps.toList.head? = some 45) a0 dO ∧ (r.length ≠ 1 → dO = some 1) ∧ ∀ v, dO = some v → Bits 8000 (v : Int)) ?_ ?_
      · walk_at "go"
        refine ⟨l, _, rfl, .inl (SqL.of hL3), ?_⟩
        obtain ⟨rfl, rd⟩ | ⟨b, rfl, lb, rd⟩ | ⟨b, c, q, rfl, rd⟩ := hd
        · walk_at "go"
          refine ite_d (fun c => absurd (vint_inj c) (by show ¬ ((1 : Nat) : Int) = 2; decide)) (fun c => ?_)
          walk_at "go"
          exact ⟨some 1, e13, hL3, rfl, rd, fun _ => rfl, fun v hv => by rw [← Option.some.inj hv]; exact Bits.small (by decide) (by decide)⟩
        · walk_at "go"
          refine r_ixL (v := .str b) (SqL.of hL3) (atI_nat (j := 1) rfl) ?_
          walk_at "go"
          intro H4 e4
          exact ⟨plainI b.cps.toList, e13.trans e4, e4 _ _ hL3, rfl, rd, fun t => absurd rfl t, fun v hv => plain_bits hv (by rw [← str_len]; exact lb)⟩
        · walk_at "go"
          refine ite_d (fun c => ?_) (fun c => ?_)
          · have c := vint_inj c
            rw [List.length_map, List.length_cons, List.length_cons, List.length_cons] at c
            omega
          · walk_at "go"
            refine ⟨some 1, e13, hL3, rfl, ?_, fun _ => rfl, fun v hv => by rw [← Option.some.inj hv]; exact Bits.small (by decide) (by decide)⟩
            rw [rd]
            unfold lenR
            rw [if_neg (by simp)]
      · rintro σ H4 ⟨dO, e4, hL4, rfl, rd, one, bits⟩
        have hm : (List.map V.str (a :: r)).length = (a :: r).length := List.length_map ..
        have h2 : (a :: r).length ≠ 2 → dO = some 1 := fun t => one fun q => t (by rw [List.length_cons, q])
        clear one hd
        generalize (a :: r).length = m at *
        walk_at "go"
        refine ⟨l, _, rfl, .inl (SqL.of hL4), ?_⟩
        rw [hm]
        have rn : readR x.cps.toList = none → Q .non H4 := fun t => kb t H4 e4
        walk_at "go"
        refine ite_d (fun c => ?_) (fun c => ?_)
        · walk_at "go"
          refine rn ?_
          rw [rd]
          unfold lenR
          rw [if_neg (by omega)]
        · have hm2 : m ≤ 2 := by omega
          cases a0 with
          | none =>
            walk_at "go"
            exact rn (by rw [rd, lenR_none])
          | some v =>
            cases dO with
            | none =>
              walk_at "go"
              refine rn ?_
              have m2 : m = 2 := Classical.byContradiction fun t => by cases h2 t
              rw [rd]
              unfold lenR
              rw [if_pos hm2, if_pos m2]
              exact pair_none _
            | some u =>
              rw [show optV (some u) = V.int (u : Int) from rfl, show optV (some v) = V.int (v : Int) from rfl]
              have bv := ba v rfl
              have bu := bits u rfl
              have h2 : m ≠ 2 → u = 1 := fun t => Option.some.inj (h2 t)
              have hsv : ¬ (v = 0 ∧ x.cps.toList.head? = some 45) → 0 < u → ¬ (m = 2 ∧ u = 1) → readR x.cps.toList = (if Nat.gcd ((if x.cps.toList.head? = some 45 then (-1 : Int) else 1) * (v : Int)).natAbs (u : Int).natAbs = 1 then some ((if x.cps.toList.head? = some 45 then (-1 : Int) else 1) * (v : Int), (u : Int)) else none) := fun q1 q2 q3 => by rw [rd]; exact lenR_some (x.cps.toList.head? = some 45) hm2 h2 q2 q3 q1
              have hs0 : (x.cps.toList.head? = some 45 ∧ (if x.cps.toList.head? = some 45 then (-1 : Int) else 1) = -1) ∨ (¬ x.cps.toList.head? = some 45 ∧ (if x.cps.toList.head? = some 45 then (-1 : Int) else 1) = 1) := by
                by_cases q : x.cps.toList.head? = some 45
                · exact .inl ⟨q, if_pos q⟩
                · exact .inr ⟨q, if_neg q⟩
              generalize (if x.cps.toList.head? = some 45 then (-1 : Int) else 1) = s0 at *
              have bs : Bits 8 s0 := by
                obtain ⟨_, rfl⟩ | ⟨_, rfl⟩ := hs0
                · show (-1 : Int).natAbs < _; decide
                · show (1 : Int).natAbs < _; decide
              walk_at "go"
              refine ite_d (fun c0 => ?_) (fun c0 => ?_)
              · have c0 : u = 0 := by have := vint_inj c0; omega
                walk_at "go"
                refine rn ?_
                by_cases q : m = 2
                · rw [rd, lenR_small _ _ q (by omega)]
                · have := h2 q
                  omega
              · have u0 : 0 < u := Nat.pos_of_ne_zero fun t => c0 (by rw [t]; rfl)
                by_cases nz : v = 0 ∧ x.cps.toList.head? = some 45
                · walk_at "go"
                  refine ite_d (fun c1 => ?_) (fun c1 => absurd (by have z := nz.1; exact congrArg V.int (by omega)) c1)
                  walk_at "go"
                  refine ite_d (fun c2 => ?_) (fun c2 => ?_)
                  · walk_at "go"
                    refine rn ?_
                    rw [rd, nz.1, lenR_zero _ nz.2]
                  · obtain ⟨q, rfl⟩ | ⟨q, rfl⟩ := hs0
                    · omega
                    · exact absurd nz.2 q
                · walk_at "go"
                  refine ite_d (fun c1 => ?aa) (fun c1 => ?bb)
                  case' aa =>
                    walk_at "go"
                    refine ite_d (fun c2 => ?a1) (fun c2 => ?a2)
                    case a1 =>
                      obtain ⟨q, rfl⟩ | ⟨q, rfl⟩ := hs0
                      · exact absurd ⟨by have := vint_inj c1; omega, q⟩ nz
                      · omega
                  all_goals walk_at "go"
                  all_goals refine ⟨l, _, rfl, .inl (SqL.of hL4), ?_⟩
                  all_goals rw [hm]
                  all_goals walk_at "go"
                  all_goals refine ite_d (fun c3 => ?_) (fun c3 => ?_)
                  all_goals first | (walk_at "go"; refine ite_d (fun c4 => ?_) (fun c4 => ?_)) | skip
                  all_goals walk_at "go"
                  all_goals try exact rn (by rw [rd, lenR_small _ _ (by have := vint_inj c3; omega) (by have := vint_inj c4; omega)])
                  all_goals have nu : ¬ (m = 2 ∧ u = 1) := by first | (have q := vneq c3; omega) | (have q := vneq c4; omega)
                  all_goals have hsv := hsv nz u0 nu
                  all_goals refine ⟨Bits.mulW bs bv (by decide), ?_⟩
                  all_goals walk_at "go"
                  all_goals intro p H5 e5 hp
                  all_goals walk_at "go"
                  all_goals refine ⟨Bits.mulW bs bv (by decide), ?_⟩
                  all_goals walk_at "go"
                  all_goals refine ⟨by show 2 ≤ sizeLine; decide, fun q hq => ?_⟩
                  all_goals have e6 := same_new (o := .tup [.int (s0 * (v : Int)), .int (u : Int)]) hq
                  all_goals refine ⟨.tuple [.int (pn (s0 * (v : Int)) u), .int (pd (s0 * (v : Int)) u)], .tuple [.int (s0 * (v : Int)), .int (u : Int)], .tup (SqT.of (e6 _ _ hp)) (.cons (.int _) (.cons (.int _) .nil)), .tup (SqT.of upd_same) (.cons (.int _) (.cons (.int _) .nil)), rfl, rfl, ?_⟩
                  all_goals rw [eqv_pair]
                  all_goals by_cases g : Nat.gcd (s0 * (v : Int)).natAbs (u : Int).natAbs = 1
                  all_goals first
                    | (rw [((low_iff (by omega)).mpr g).1, ((low_iff (by omega)).mpr g).2, beq_self_eq_true, beq_self_eq_true]
                       walk_at "go"
                       refine ⟨Bits.mulW bs bv (by decide), ?_⟩
                       walk_at "go"
                       refine ⟨by show 2 ≤ sizeLine; decide, fun z hz => ?_⟩
                       exact kg _ _ (by rw [hsv, if_pos g]) z _ ((e4.trans e5).trans (e6.trans (same_new hz))) upd_same)
                    | (have ef : (pn (s0 * (v : Int)) u == s0 * (v : Int) && (pd (s0 * (v : Int)) u == (u : Int) && true)) = false := by
                         rw [Bool.eq_false_iff]
                         intro t
                         rw [Bool.and_true, Bool.and_eq_true, beq_iff_eq, beq_iff_eq] at t
                         exact g ((low_iff (by omega)).mp t)
                       rw [ef]
                       walk_at "go"
                       exact kb (by rw [hsv, if_neg g]) _ ((e4.trans e5).trans e6))
end
section
open NumText TL
/-! ### reading what was written -/
theorem plain_dig {L : List Nat} (h : AllDigits L) (n : NoLead L) : plainI L = some (digitsVal L) := by
  unfold plainI
  rw [if_pos ⟨n.1, dg_all.mpr h⟩, if_neg]
  intro t
  have := n.2 t.2
  rw [this] at t
  exact absurd t.1 (by decide)
theorem plain_num (k : Nat) : plainI (numL k) = some k := by rw [plain_dig (numL_digits k) (numL_nolead k), numL_val]
theorem num_head (k : Nat) : (numL k).head? ≠ some 45 := fun t => by
  have := numL_digits k 45 (List.mem_of_mem_head? t)
  omega
theorem un_int (n : Int) : unsign (intL n) = numL n.natAbs ∧ ((intL n).head? = some 45 ↔ n < 0) := by
  unfold intL
  by_cases h : n < 0
  · rw [if_pos h]
    exact ⟨rfl, fun _ => h, fun _ => rfl⟩
  · rw [if_neg h]
    refine ⟨?_, fun t => absurd t (num_head _), fun t => absurd t h⟩
    unfold unsign
    rw [if_neg (num_head _)]
theorem readI_int (n : Int) : readI (intL n) = some n := by
  obtain ⟨h1, h2⟩ := un_int n
  rw [read_plain, h1, plain_num]
  show (if (intL n).head? = some 45 then _ else _) = _
  by_cases h : n < 0
  · rw [if_pos (h2.mpr h), if_neg (by omega)]
    congr 1
    omega
  · rw [if_neg fun t => h (h2.mp t)]
    congr 1
    omega
theorem dig_free {L : List Nat} (h : AllDigits L) : 47 ∉ L := fun t => by
  have := h 47 t
  omega
theorem int_free (n : Int) : 47 ∉ intL n := by
  unfold intL
  split
  · intro t
    rcases List.mem_cons.mp t with t | t
    · omega
    · exact dig_free (numL_digits _) t
  · exact dig_free (numL_digits _)
theorem pre_app : ∀ {A : List Nat} (B : List Nat), 47 ∉ A → preL (A ++ 47 :: B) = A
  | [], _, _ => rfl
  | c :: A, B, h => by
    have hc : (c != 47) = true := bne_iff_ne.mpr fun t => h (by rw [t]; exact List.mem_cons_self ..)
    have ih := pre_app B (fun t => h (List.mem_cons_of_mem c t))
    unfold preL at *
    rw [List.cons_append, List.takeWhile_cons, if_pos hc, ih]
theorem suf_app {A : List Nat} (B : List Nat) (h : 47 ∉ A) : sufL (A ++ 47 :: B) = B := by
  unfold sufL
  rw [pre_app B h, List.drop_append]
  simp
theorem readR_text {n d : Int} (hl : Low n d) : readR (ratL n d) = some (n, d) := by
  have hp := hl.pos
  unfold ratL readR
  by_cases h : d = 1
  · subst h
    rw [if_pos rfl, if_neg (int_free n), readI_int]
    rfl
  · rw [if_neg h, if_pos (by simp), pre_app _ (int_free n), suf_app _ (int_free n), readI_int, readI_int]
    exact if_pos ⟨by omega, hl.cop⟩
theorem int_dig {L : List Nat} (h : AllDigits L) (n : NoLead L) : intL ((digitsVal L : Nat) : Int) = L := by
  unfold intL
  rw [if_neg (by omega)]
  exact (num_uniq _ rfl h n).symm
theorem rat_dig {L : List Nat} (h : AllDigits L) (n : NoLead L) : ratL ((digitsVal L : Nat) : Int) 1 = L := by
  unfold ratL
  rw [if_pos rfl, int_dig h n]
theorem rat_neg {L : List Nat} (h : AllDigits L) (n : NoLead L) (p : 0 < digitsVal L) : ratL (0 - ((digitsVal L : Nat) : Int)) 1 = 45 :: L := by
  unfold ratL intL
  rw [if_pos rfl, if_pos (by omega), show (0 - ((digitsVal L : Nat) : Int)).natAbs = digitsVal L by omega, ← num_uniq _ rfl h n]
theorem rat_one {M : List Nat} (h : AllDigits M) (n : NoLead M) (p : 2 ≤ digitsVal M) : ratL 1 ((digitsVal M : Nat) : Int) = 49 :: 47 :: M := by
  unfold ratL
  rw [if_neg (by omega), int_dig h n, show intL 1 = [49] from by unfold intL; rw [if_neg (by decide)]; exact numL_lt (by decide)]
  rfl
theorem readR_zero {L : List Nat} (h : AllDigits L) (ne : L ≠ []) : readR (48 :: L) = none := by
  have f : 47 ∉ 48 :: L := fun t => by
    rcases List.mem_cons.mp t with t | t
    · omega
    · exact dig_free h t
  unfold readR
  have u : unsign (48 :: L) = 48 :: L := by unfold unsign; rw [if_neg (by intro t; exact absurd (Option.some.inj t) (by decide))]
  rw [if_neg f, readI_zero ⟨by rw [u]; rfl, fun t => ne (List.cons.inj t).2⟩]
  rfl
theorem dig_bound {L : List Nat} (h : AllDigits L) (hl : L.length ≤ 6400) : digitsVal L < 10 ^ 6400 := Nat.lt_of_lt_of_le (val_lt h) (Nat.pow_le_pow_right (by decide) hl)
end
section
/-- an item of a list of texts by a draw -/
theorem atI_strs {xs : List Str} {v : Int} (h0 : 0 ≤ v) (h1 : v < (xs.length : Int)) : ∃ y, y ∈ xs ∧ atI (xs.map V.str) v = some (.str y) := by
  have hk : v.toNat < xs.length := by omega
  have e : v = ((v.toNat : Nat) : Int) := by omega
  refine ⟨xs[v.toNat], List.getElem_mem hk, ?_⟩
  have q : atI (xs.map V.str) ((v.toNat : Nat) : Int) = some (.str xs[v.toNat]) := atI_nat (by rw [List.getElem?_map, List.getElem?_eq_getElem hk] <;> rfl)
  rw [← e] at q
  exact q
theorem atI_sign {x : Str} {v : Int} (h0 : 0 ≤ v) (h1 : v < (x.cps.toList.length : Int)) : ∃ c, c ∈ x.cps.toList ∧ atI x.cps.toList v = some c := by
  have hk : v.toNat < x.cps.toList.length := by omega
  have e : v = ((v.toNat : Nat) : Int) := by omega
  refine ⟨x.cps.toList[v.toNat], List.getElem_mem hk, ?_⟩
  have q : atI x.cps.toList ((v.toNat : Nat) : Int) = some x.cps.toList[v.toNat] := atI_nat (List.getElem?_eq_getElem hk)
  rw [← e] at q
  exact q
theorem cutS_le (x : Str) (a b : Option Int) : (cutS x a b).cps.toList.length ≤ x.cps.toList.length := by
  unfold cutS
  rw [List.length_take, List.length_drop]
  omega
/-- texts of Python's own signs -/
theorem sok_iff (x : Str) : PyData.strOk x = true ↔ ∀ c ∈ x.cps.toList, c < 0x110000 := by
  unfold PyData.strOk
  rw [← Array.all_toList, List.all_eq_true]
  simp only [decide_eq_true_eq]
theorem sok_cut {x : Str} (h : PyData.strOk x = true) (a b : Option Int) : PyData.strOk (cutS x a b) = true := by
  rw [sok_iff] at h ⊢
  intro c hc
  unfold cutS at hc
  exact h c (List.mem_of_mem_drop (List.mem_of_mem_take hc))
theorem sok_app {x y : Str} (h : PyData.strOk x = true) (g : PyData.strOk y = true) : PyData.strOk (x ++ y) = true := by
  rw [sok_iff] at h g ⊢
  rw [Str.cps_append, Array.toList_append]
  intro c hc
  rcases List.mem_append.mp hc with hc | hc
  · exact h c hc
  · exact g c hc
theorem sok_sign {x : Str} {c : Nat} (h : PyData.strOk x = true) (hc : c ∈ x.cps.toList) : PyData.strOk ⟨#[c]⟩ = true := by
  rw [sok_iff] at h ⊢
  intro d hd
  have : d = c := by simpa using hd
  rw [this]
  exact h c hc
end
section
open NumText TL
variable {P : Program} {w : World} {K : PySem.W.Frag} {mg : Str → Option Value} {base : Heap}
/-! ### texts of any length -/
theorem ten_len {w : Int} (h0 : 0 ≤ w) (h1 : w < 10000000000) : AllDigits ((numL (10000000000 + w).toNat).drop 1) ∧ 1 ≤ ((numL (10000000000 + w).toNat).drop 1).length ∧ ((numL (10000000000 + w).toNat).drop 1).length ≤ 10 := by
  have a := numL_digits (10000000000 + w).toNat
  refine ⟨fun c hc => a c (List.mem_of_mem_drop hc), ?_, ?_⟩
  · have l := val_lt a
    rw [numL_val] at l
    rw [List.length_drop]
    have : ¬ (numL (10000000000 + w).toNat).length ≤ 1 := fun t => by
      have h2 : 10 ^ (numL (10000000000 + w).toNat).length ≤ 10 ^ 1 := Nat.pow_le_pow_right (by decide) t
      have h3 : 10 ^ 1 = 10 := rfl
      omega
    omega
  · rw [List.length_drop]
    have := numL_len (k := 11) (n := (10000000000 + w).toNat) (by decide) (by
      have : 10 ^ 11 = 100000000000 := rfl
      omega)
    omega
theorem cut_last (x : Str) : (cutS x none (some (-1))).cps.toList = x.cps.toList.dropLast := by
  have el := str_len x
  have e : HT.sIx x.length x.length (some (-1)) = x.length - 1 := by
    show (if (-1 : Int) < 0 then ((-1 : Int) + (x.length : Int)).toNat else min (-1 : Int).toNat x.length) = _
    rw [if_pos (by decide)]
    omega
  unfold cutS
  rw [e, HT.sIx_none, List.drop_zero, Nat.sub_zero, List.dropLast_eq_take, ← el]
theorem both_true (a b : Int) : (decide (a = a) && decide (b = b)) = true := by simp
theorem pair_inj {a b n d : Int} (h : some (a, b) = some (n, d)) : n = a ∧ d = b := by
  have h := Option.some.inj h
  exact ⟨(congrArg Prod.fst h).symm, (congrArg Prod.snd h).symm⟩
theorem str_true {y s : Str} (h : y.cps.toList = s.cps.toList) : decide (V.str y = V.str s) = true := decide_eq_true (str_codes.mpr h)
theorem first_dig : ∀ c ∈ (Str.ofString "123456789").cps.toList, 49 ≤ c ∧ c ≤ 57 := by decide +kernel
theorem line_no {c : Nat} {r : List Nat} (h : 49 ≤ c) : NoLead (c :: r) := ⟨List.cons_ne_nil _ _, fun t => by have := Option.some.inj t; omega⟩
def spAny4 : Sp := fun vs H Q _ => ∃ s : Addr, vs = [.ref s] ∧ Strm H s ∧ ∀ H', Q (.bl true) H'
theorem ok__law_of_any_length (T : Top w K mg) : FnOk P w K mg base CX0 6 (He.ga K ("_law_of_any_length" : Str)) (fdOf K d__law_of_any_length) ["stream"] spAny4 := by
  obtain ⟨ds0, B0⟩ := T.b0_Ratio___init__
  obtain ⟨ds1, B1⟩ := T.b1_Ratio___init__
  refine (T.f__law_of_any_length).ok sc__law_of_any_length (fun vs H Q E h => ?_) (fun cdv A outer s H vs Q E hr h => ?_)
  · obtain ⟨s0, rfl, _⟩ := h
    rfl
  · obtain ⟨s0, rfl, hS, k⟩ := h
    refine ⟨_, PSs.nox (pss_cons (ps_set (i := 1) sc__law_of_any_length.nd rfl (Or.inl rfl) (pe_ix ix_str pe_str (pe_call (ok__law_draw (K := K) T) (hr.mono (by decide)) rfl T.g__law_draw T.f__law_draw.kp T.b__law_draw .nil pass0 (pa_cons (pv 0) (pa_cons pe_int pa_nil))) (fun _ _ => rfl)))
    (pss_cons (ps_for PassesOwn.never rfl (pi_range1 rfl T.n_range (pa_cons (pe_op op_add pe_int (pe_call (ok__law_draw (K := K) T) (hr.mono (by decide)) rfl T.g__law_draw T.f__law_draw.kp T.b__law_draw .nil pass0 (pa_cons (pv 0) (pa_cons pe_int pa_nil)))) pa_nil)) (pg_name (i := 2) sc__law_of_any_length.nd rfl (Or.inl rfl))
    (pss_one (ps_set (i := 1) sc__law_of_any_length.nd rfl (Or.inl rfl) (pe_op op_add_str (pv 1) (pe_slice sl_str (pe_callTy call_str_int (by rfl) T.n_str (by decide +kernel) (pa_cons (pe_op op_add (pe_op op_pow pe_int pe_int) (pe_call (ok__law_draw (K := K) T) (hr.mono (by decide)) rfl T.g__law_draw T.f__law_draw.kp T.b__law_draw .nil pass0 (pa_cons (pv 0) (pa_cons (pe_op op_pow pe_int pe_int) pa_nil)))) pa_nil)) (po_some pe_int) po_none)))))
    (pss_cons (ps_set (i := 3) sc__law_of_any_length.nd rfl (Or.inl rfl) (pe_call (ok__law_plain (K := K) T) (hr.mono (by decide)) rfl T.g__law_plain T.f__law_plain.kp T.b__law_plain .nil pass0 (pa_cons (pv 1) pa_nil)))
    (pss_cons (ps_set (i := 4) sc__law_of_any_length.nd rfl (Or.inl rfl) (pe_ix (ix_listK (K := K) rfl) (pe_lst (pa_cons pe_str (pa_cons (pe_op op_add_str (pe_op op_add_str pe_str (pe_slice sl_str (pv 1) po_none (po_some (pe_un un_neg pe_int)))) pe_str) pa_nil))) (pe_call (ok__law_draw (K := K) T) (hr.mono (by decide)) rfl T.g__law_draw T.f__law_draw.kp T.b__law_draw .nil pass0 (pa_cons (pv 0) (pa_cons pe_int pa_nil))) (fun _ _ => rfl)))
    (pss_cons (ps_if (pt_cmpR op_eq (pv 4) pe_str (nomark _))
    (pss_one (ps_ret (pe_and (pe_call (ok__law_is (K := K) T) (hr.mono (by decide)) rfl T.g__law_is T.f__law_is.kp T.b__law_is .nil pass0 (pa_cons (pe_call (ok__law_told (K := K) T) (hr.mono (by decide)) rfl T.g__law_told T.f__law_told.kp T.b__law_told .nil pass0 (pa_cons (pv 1) pa_nil)) (pa_cons (pe_tup (pa_cons (pv 3) (pa_cons pe_int pa_nil))) pa_nil))) (pe_one (pe_cmpR op_eq (pe_call (ok_ratio_text (K := K) T) (hr.mono (by decide)) rfl T.g_ratio_text T.f_ratio_text.kp T.b_ratio_text .nil pass0 (pa_cons (pe_make (C := He.ga K ("Ratio" : Str)) T.mk_Ratio (ok_Ratio___init__ (K := K) T) (hr.mono (by decide)) rfl T.g_Ratio (B0.2) (B0.1) passL (pa_cons (pe_op op_sub pe_int (pv 3)) pa_nil)) pa_nil)) (pe_op op_add_str pe_str (pv 1)) (nomark _))))))
    pss_nil)
    (pss_cons (ps_set (i := 5) sc__law_of_any_length.nd rfl (Or.inl rfl) (pe_call (ok__law_plain (K := K) T) (hr.mono (by decide)) rfl T.g__law_plain T.f__law_plain.kp T.b__law_plain .nil pass0 (pa_cons (pe_op op_add_str (pe_slice sl_str (pv 1) po_none (po_some (pe_un un_neg pe_int))) pe_str) pa_nil)))
    (pss_cons (ps_set (i := 6) sc__law_of_any_length.nd rfl (Or.inl rfl) (pe_call (ok__law_told (K := K) T) (hr.mono (by decide)) rfl T.g__law_told T.f__law_told.kp T.b__law_told .nil pass0 (pa_cons (pe_op op_add_str pe_str (pv 4)) pa_nil)))
    (pss_one (ps_ret (pe_and (pe_call (ok__law_is (K := K) T) (hr.mono (by decide)) rfl T.g__law_is T.f__law_is.kp T.b__law_is .nil pass0 (pa_cons (pv 6) (pa_cons (pe_tup (pa_cons pe_int (pa_cons (pv 5) pa_nil))) pa_nil))) (pe_and (pe_cmpR op_eq (pe_call (ok_ratio_text (K := K) T) (hr.mono (by decide)) rfl T.g_ratio_text T.f_ratio_text.kp T.b_ratio_text .nil pass0 (pa_cons (pv 6) pa_nil)) (pe_op op_add_str pe_str (pv 4)) (nomark _)) (pe_one (pe_cmpR op_eq (pe_call (ok__law_told (K := K) T) (hr.mono (by decide)) rfl T.g__law_told T.f__law_told.kp T.b__law_told .nil pass0 (pa_cons (pe_op op_add_str pe_str (pv 1)) pa_nil)) pe_str (nomark _)))))))))))))), ?_⟩
    walk_at "go"
    intro v h0 h1
    obtain ⟨c, hc, hat⟩ := atI_sign (x := Str.ofString "123456789") h0 (by rw [show (Str.ofString "123456789").cps.toList.length = 9 from by decide +kernel]; exact h1)
    have hc9 := first_dig c hc
    walk_at "go"
    refine ⟨_, _, _, rfl, rfl, by decide +kernel, hat, ?_⟩
    walk_at "go"
    intro v2 h2 h3
    walk_at "go"
    refine for_rng (fun i σ H' => H' = H ∧ ∃ (y : Str) (kv : Option V) (r : List Nat), σ = [some (.ref s0), some (.str y), kv, none, none, none, none] ∧ y.cps.toList = c :: r ∧ AllDigits r ∧ i ≤ r.length ∧ r.length ≤ 10 * i) ⟨rfl, _, none, [], rfl, rfl, fun c hc => (nomatch hc), Nat.le_refl _, Nat.le_refl _⟩ ?_ ?_
    · rintro i σ H' hi ⟨rfl, y, kv, r, rfl, hy, ar, l1, l2⟩
      walk_at "go"
      intro u h4 h5
      have e10 : (10 : Int) ^ Int.toNat 10 = 10000000000 := by decide
      rw [e10] at h5
      walk_at "go"
      rw [e10]
      have en : (10000000000 : Int) + u = (((10000000000 + u).toNat : Nat) : Int) := by omega
      refine ⟨?_, ?_⟩
      · have hb : ((10000000000 : Int) + u).natAbs < 2 ^ 64 := by omega
        exact Nat.lt_of_lt_of_le (PySem.Flt.log2_lt_of (by decide) hb) (by decide)
      walk_at "go"
      rw [en]
      have tn := tl_num (10000000000 + u).toNat
      have ct : (cutS (Str.ofString (toString (((10000000000 + u).toNat : Nat) : Int))) (some 1) none).cps.toList = _ := cut_tail (Str.ofString (toString (((10000000000 + u).toNat : Nat) : Int))) 1
      rw [show (Str.ofString (toString (((10000000000 + u).toNat : Nat) : Int))).cps.toList = numL (10000000000 + u).toNat from tn] at ct
      obtain ⟨t1, t2, t3⟩ := ten_len h4 h5
      have lo : (Str.ofString (toString (((10000000000 + u).toNat : Nat) : Int))).length ≤ 11 := by
        rw [str_len, show (Str.ofString (toString (((10000000000 + u).toNat : Nat) : Int))).cps.toList = numL (10000000000 + u).toNat from tn]
        rw [List.length_drop] at t3
        omega
      refine ⟨by rw [sizeLine_eq]; omega, y, _, rfl, rfl, ?_, rfl, _, _, r ++ (numL (10000000000 + u).toNat).drop 1, rfl, ?_, all_app ar t1, ?_, ?_⟩
      · rw [str_len, str_len, hy, ct, sizeLine_eq, List.length_cons]
        omega
      · rw [Str.cps_append, Array.toList_append, hy, ct]
        rfl
      · rw [List.length_append]
        omega
      · rw [List.length_append]
        omega
    · rintro σ H' ⟨rfl, y, kv, r, rfl, hy, ar, l1, l2⟩
      have aL : AllDigits (c :: r) := fun d hd => by
        rcases List.mem_cons.mp hd with hd | hd
        · omega
        · exact ar d hd
      have nL : NoLead (c :: r) := line_no hc9.1
      have ly : y.length = r.length + 1 := by rw [str_len, hy, List.length_cons]
      walk_at "go"
      intro H1 e1
      rw [hy, plain_dig aL nL]
      rw [show optV (some (digitsVal (c :: r))) = V.int ((digitsVal (c :: r) : Nat) : Int) from rfl]
      have lys : y.length ≤ sizeLine := by rw [sizeLine_eq]; omega
      have cl := cut_last y
      rw [hy] at cl
      obtain ⟨r1, er1, ar1, lr1⟩ : ∃ r1, (c :: r).dropLast = c :: r1 ∧ AllDigits r1 ∧ r1.length + 1 = r.length := by
        cases hr : r with
        | nil =>
          rw [hr] at l1
          have : 420 ≤ ([] : List Nat).length := by omega
          exact absurd this (by decide)
        | cons d q =>
          refine ⟨(d :: q).dropLast, rfl, fun z hz => ar z (by rw [hr]; exact List.dropLast_subset _ hz), ?_⟩
          rw [List.length_dropLast, List.length_cons]
          omega
      rw [er1] at cl
      have lb : (cutS y none (some (-1))).length = r.length := by rw [str_len, cl, List.length_cons]; omega
      have o1 : (Str.ofString "/").length = 1 := by decide +kernel
      have o2 : (Str.ofString "0").length = 1 := by decide +kernel
      have o3 : (Str.ofString "1").length = 1 := by decide +kernel
      have o4 : (Str.ofString "-").length = 1 := by decide +kernel
      walk_at "go"
      generalize hb : cutS y none (some (-1)) = b at *
      refine ⟨by rw [Str.length_append, sizeLine_eq]; omega, ?_⟩
      walk_at "go"
      refine ⟨by show 2 ≤ sizeLine; decide, ?_⟩
      walk_at "go"
      intro p hp
      have e2 := e1.trans (same_new (o := .lst [.str (Str.ofString ""), .str (Str.ofString "/" ++ b ++ Str.ofString "0")]) hp)
      have hS2 := hS.mono e2
      have hl2 : upd H1 p (.lst [.str (Str.ofString ""), .str (Str.ofString "/" ++ b ++ Str.ofString "0")]) p = some (.lst [.str (Str.ofString ""), .str (Str.ofString "/" ++ b ++ Str.ofString "0")]) := upd_same
      generalize upd H1 p (.lst [.str (Str.ofString ""), .str (Str.ofString "/" ++ b ++ Str.ofString "0")]) = H2 at *
      walk_at "go"
      intro u h4 h5
      walk_at "go"
      have rd0 : readR (c :: r) = some (((digitsVal (c :: r) : Nat) : Int), 1) := by
        have z := readR_text (low_one ((digitsVal (c :: r) : Nat) : Int))
        rw [rat_dig aL nL] at z
        exact z
      have vp : 2 ≤ digitsVal (c :: r) := by
        have z := val_pos aL nL (by rw [List.length_cons]; omega)
        rw [List.length_cons, Nat.add_sub_cancel] at z
        have z2 : 10 ^ 1 ≤ 10 ^ r.length := Nat.pow_le_pow_right (by decide) (by omega)
        omega
      have vb := dig_bound aL (by rw [List.length_cons]; omega)
      obtain rfl | rfl : u = 0 ∨ u = 1 := by omega
      · refine r_ixL (v := .str (Str.ofString "")) (SqL.of hl2) (atI_nat (j := 0) rfl) ?_
        walk_at "go"
        rw [hy, rd0]
        refine ⟨fun n d hn q H3 e3 rq => ?_, fun hn => by cases hn⟩
        obtain ⟨rfl, rfl⟩ := pair_inj hn
        walk_at "go"
        refine ⟨by show 2 ≤ sizeLine; decide, fun t ht => ?_⟩
        refine ⟨q, t, _, _, _, _, rfl, rq.mono (same_new ht), SqT.of upd_same, ?_⟩
        rw [both_true]
        walk_at "go"
        intro z dx nz ndx _
        refine made_at2 (K := K) nz ndx (low_one _) (fun H5 e5 rx => ?_)
        walk_at "go"
        refine .inr ⟨z, _, _, rfl, rx, by omega, by decide +kernel, fun y' H6 e6 hy' => ?_⟩
        rw [rat_neg aL nL (by omega)] at hy'
        walk_at "go"
        have cn : (Str.ofString "-").cps.toList = [45] := by decide +kernel
        have q : decide (V.str y' = V.str (Str.ofString "-" ++ y)) = true := str_true (by rw [hy', Str.cps_append, Array.toList_append, hy, cn]; rfl)
        refine ⟨by rw [sizeLine_eq]; omega, ?_⟩
        walk_at "go"
        rw [q]
        exact k _
      · refine r_ixL (v := .str (Str.ofString "/" ++ b ++ Str.ofString "0")) (SqL.of hl2) (atI_nat (j := 1) rfl) ?_
        have c0 : (Str.ofString "0").cps.toList = [48] := by decide +kernel
        have c1 : (Str.ofString "1").cps.toList = [49] := by decide +kernel
        have cm : (Str.ofString "/" ++ b ++ Str.ofString "0").cps.toList = 47 :: (c :: (r1 ++ [48])) := by
          rw [Str.cps_append, Array.toList_append, Str.cps_append, Array.toList_append, cl, c0]
          rfl
        have cM : (b ++ Str.ofString "0").cps.toList = c :: (r1 ++ [48]) := by
          rw [Str.cps_append, Array.toList_append, cl, c0]
          rfl
        have lm : (Str.ofString "/" ++ b ++ Str.ofString "0").length = r.length + 2 := by rw [Str.length_append, Str.length_append]; omega
        have lM : (b ++ Str.ofString "0").length = r.length + 1 := by rw [Str.length_append]; omega
        have aM : AllDigits (c :: (r1 ++ [48])) := fun d hd => by
          rcases List.mem_cons.mp hd with hd | hd
          · omega
          · rcases List.mem_append.mp hd with hd | hd
            · exact ar1 d hd
            · rw [List.mem_singleton.mp hd]
              decide
        have nM : NoLead (c :: (r1 ++ [48])) := line_no hc9.1
        have vM : 2 ≤ digitsVal (c :: (r1 ++ [48])) := by
          have z := val_pos aM nM (by rw [List.length_cons, List.length_append, List.length_singleton]; omega)
          rw [List.length_cons, Nat.add_sub_cancel] at z
          have z2 : 10 ^ 1 ≤ 10 ^ (r1 ++ [48]).length := Nat.pow_le_pow_right (by decide) (by rw [List.length_append, List.length_singleton]; omega)
          omega
        have vbM := dig_bound aM (by rw [List.length_cons, List.length_append, List.length_singleton]; omega)
        have rat := rat_one aM nM vM
        have pl := plain_dig aM nM
        generalize c :: (r1 ++ [48]) = M at *
        have rd1 : readR (49 :: 47 :: M) = some (1, ((digitsVal M : Nat) : Int)) := by
          have z := readR_text (n := 1) (d := ((digitsVal M : Nat) : Int)) ⟨by omega, Nat.gcd_one_left _⟩
          rw [rat] at z
          exact z
        walk_at "go"
        refine ite_d (fun t => ?_) (fun _ => ?_)
        · have t := str_codes.mp t
          rw [cm] at t
          exact absurd (congrArg List.length t) (by rw [show (Str.ofString "").cps.toList = [] from by decide +kernel]; simp)
        walk_at "go"
        rw [hb]
        refine ⟨by rw [sizeLine_eq]; omega, ?_⟩
        walk_at "go"
        intro H3 e3
        rw [cM, pl, show optV (some (digitsVal M)) = V.int ((digitsVal M : Nat) : Int) from rfl]
        walk_at "go"
        have c49 : (Str.ofString "1" ++ (Str.ofString "/" ++ b ++ Str.ofString "0")).cps.toList = 49 :: 47 :: M := by
          rw [Str.cps_append, Array.toList_append, c1, cm]
          rfl
        have l49 : (Str.ofString "1" ++ (Str.ofString "/" ++ b ++ Str.ofString "0")).length = r.length + 3 := by rw [Str.length_append]; omega
        refine ⟨by rw [sizeLine_eq]; omega, ?_⟩
        walk_at "go"
        rw [c49, rd1]
        refine ⟨fun n d hn q H4 e4 rq => ?_, fun hn => by cases hn⟩
        obtain ⟨rfl, rfl⟩ := pair_inj hn
        walk_at "go"
        refine ⟨by show 2 ≤ sizeLine; decide, fun t ht => ?_⟩
        refine ⟨q, t, _, _, _, _, rfl, rq.mono (same_new ht), SqT.of upd_same, ?_⟩
        rw [both_true]
        walk_at "go"
        refine .inr ⟨q, _, _, rfl, rq.mono (same_new ht), by decide +kernel, by omega, fun y' H6 e6 hy' => ?_⟩
        rw [rat] at hy'
        have q1 : decide (V.str y' = V.str (Str.ofString "1" ++ (Str.ofString "/" ++ b ++ Str.ofString "0"))) = true := str_true (by rw [hy', c49])
        walk_at "go"
        refine ⟨by rw [sizeLine_eq]; omega, ?_⟩
        walk_at "go"
        rw [q1]
        walk_at "go"
        have cz : (Str.ofString "0" ++ y).cps.toList = 48 :: (c :: r) := by
          rw [Str.cps_append, Array.toList_append, c0, hy]
          rfl
        have lz : (Str.ofString "0" ++ y).length = r.length + 2 := by rw [Str.length_append]; omega
        refine ⟨by rw [sizeLine_eq]; omega, ?_⟩
        walk_at "go"
        rw [cz, readR_zero aL (List.cons_ne_nil _ _)]
        refine ⟨fun n d hn => (by cases hn), fun _ H7 e7 => ?_⟩
        walk_at "go"
        exact k _
end
section
open NumText TL
variable {P : Program} {w : World} {K : PySem.W.Frag} {mg : Str → Option Value} {base : Heap}
/-! ### the law -/
theorem log_bits {n : Int} (h : Bits 700 n) : n.natAbs.log2 < 1920 := Nat.lt_of_lt_of_le (PySem.Flt.log2_lt_of (by decide) h) (by decide)
theorem int_short {n : Int} (h : Bits 700 n) : (intL n).length ≤ 212 := by
  have h1 : n.natAbs < 2 ^ 700 := h
  have h2 : 2 ^ 700 < 10 ^ 211 := by decide +kernel
  have := numL_len (k := 211) (by decide) (Nat.lt_trans h1 h2)
  unfold intL
  split
  · rw [List.length_cons]
    omega
  · omega
theorem bits_big {n : Int} (h : Bits 700 n) : n.natAbs < 10 ^ 6400 := by
  have h1 : n.natAbs < 2 ^ 700 := h
  have h2 : 2 ^ 700 < 10 ^ 6400 := by decide +kernel
  exact Nat.lt_trans h1 h2
theorem rat_short {n d : Int} (h : Bits 700 n) (g : Bits 700 d) : (ratL n d).length ≤ 425 := by
  have h1 := int_short h
  have h2 := int_short g
  unfold ratL
  split
  · omega
  · rw [List.length_append, List.length_cons]
    omega
def signs4 : List Str := ["0", "1", "-", "/", " ", "+", ".", "9", "_", "a", "\n", "\t"]
theorem signs4_len : ∀ s ∈ signs4, s.length ≤ 1 := by decide +kernel
def odd4 : List Str := ["", "-", "/", "1/", "/2", "0/2", "true", "1/0", "-0", "1/-2"]
theorem odd4_len : ∀ s ∈ odd4, s.length ≤ 4 := by decide +kernel
theorem cut_len (x : Str) (a b : Option Int) : (cutS x a b).length ≤ x.length := by
  rw [str_len, str_len]
  exact cutS_le x a b
def spLaw (K : PySem.W.Frag) : Sp := fun vs H Q _ => ∃ (a : Addr) (ns : List Int), vs = [.ref a] ∧ SqL K H a (ns.map V.int) ∧ ns.length ≤ 63 ∧ ∀ H', Q (.bl true) H'
theorem ok_law (T : Top w K mg) : FnOk P w K mg base CX0 7 (He.ga K ("law" : Str)) (fdOf K d_law) ["script"] (spLaw K) := by
  obtain ⟨ds0, B0⟩ := T.b0_Ratio___init__
  obtain ⟨ds1, B1⟩ := T.b1_Ratio___init__
  refine (T.f_law).ok sc_law (fun vs H Q E h => ?_) (fun cdv A outer s H vs Q E hr h => ?_)
  · obtain ⟨a, ns, rfl, _⟩ := h
    rfl
  · obtain ⟨a, ns, rfl, hS, h63, k⟩ := h
    refine ⟨_, PSs.nox (pss_cons (ps_set (i := 1) sc_law.nd rfl (Or.inl rfl) (pe_call (ok__law_stream (K := K) T) (hr.mono (by decide)) rfl T.g__law_stream T.f__law_stream.kp T.b__law_stream .nil pass0 (pa_cons (pv 0) pa_nil)))
    (pss_cons (ps_set (i := 2) sc_law.nd rfl (Or.inl rfl) (pe_call (ok__law_drawn_pair (K := K) T) (hr.mono (by decide)) rfl T.g__law_drawn_pair T.f__law_drawn_pair.kp T.b__law_drawn_pair .nil pass0 (pa_cons (pv 1) pa_nil)))
    (pss_cons (ps_if (pt_cmpR op_eq (pe_call (ok__law_draw (K := K) T) (hr.mono (by decide)) rfl T.g__law_draw T.f__law_draw.kp T.b__law_draw .nil pass0 (pa_cons (pv 1) (pa_cons pe_int pa_nil))) pe_int (nomark _))
    (pss_one (ps_ret (pe_call (ok__law_of_any_length (K := K) T) (hr.mono (by decide)) rfl T.g__law_of_any_length T.f__law_of_any_length.kp T.b__law_of_any_length .nil pass0 (pa_cons (pv 1) pa_nil))))
    pss_nil)
    (pss_cons (ps_set (i := 3) sc_law.nd rfl (Or.inl rfl) (pe_callTy call_str_int (by rfl) T.n_str (by decide +kernel) (pa_cons (pe_ix (ix_tupK (K := K) rfl) (pv 2) pe_int (fun _ _ => rfl)) pa_nil)))
    (C8.pss_cut (ps_if (pt_cmpR op_ne (pe_ix (ix_tupK (K := K) rfl) (pv 2) pe_int (fun _ _ => rfl)) pe_int (nomark _))
    (pss_one (ps_set (i := 3) sc_law.nd rfl (Or.inl rfl) (pe_op op_add_str (pe_op op_add_str (pv 3) pe_str) (pe_callTy call_str_int (by rfl) T.n_str (by decide +kernel) (pa_cons (pe_ix (ix_tupK (K := K) rfl) (pv 2) pe_int (fun _ _ => rfl)) pa_nil)))))
    pss_nil)
    (pss_cons (ps_if (PW.pt (pw_or (pt_cmpR op_ne (pe_call (ok_ratio_text (K := K) T) (hr.mono (by decide)) rfl T.g_ratio_text T.f_ratio_text.kp T.b_ratio_text .nil pass0 (pa_cons (pe_make (C := He.ga K ("Ratio" : Str)) T.mk_Ratio (ok_Ratio___init__ (K := K) T) (hr.mono (by decide)) rfl T.g_Ratio (B1.2) (B1.1) passL (pa_cons (pe_ix (ix_tupK (K := K) rfl) (pv 2) pe_int (fun _ _ => rfl)) (pa_cons (pe_ix (ix_tupK (K := K) rfl) (pv 2) pe_int (fun _ _ => rfl)) pa_nil))) pa_nil)) (pv 3) (nomark _)) (pw_or (pt_cmpR op_ne (pe_call (ok_ratio_text (K := K) T) (hr.mono (by decide)) rfl T.g_ratio_text T.f_ratio_text.kp T.b_ratio_text .nil pass0 (pa_cons pe_bl pa_nil)) pe_str (nomark _)) (pw_or1 (pt_cmpR op_ne (pe_call (ok_ratio_text (K := K) T) (hr.mono (by decide)) rfl T.g_ratio_text T.f_ratio_text.kp T.b_ratio_text .nil pass0 (pa_cons pe_bl pa_nil)) pe_str (nomark _))))))
    (pss_one (ps_ret pe_bl))
    pss_nil)
    (pss_cons (ps_if (pt_not (pt_val (pe_call (ok__law_is (K := K) T) (hr.mono (by decide)) rfl T.g__law_is T.f__law_is.kp T.b__law_is .nil pass0 (pa_cons (pe_call (ok__law_told (K := K) T) (hr.mono (by decide)) rfl T.g__law_told T.f__law_told.kp T.b__law_told .nil pass0 (pa_cons (pv 3) pa_nil)) (pa_cons (pv 2) pa_nil)))))
    (pss_one (ps_ret pe_bl))
    pss_nil)
    (pss_cons (ps_set (i := 4) sc_law.nd rfl (Or.inl rfl) (pe_call (ok__law_draw (K := K) T) (hr.mono (by decide)) rfl T.g__law_draw T.f__law_draw.kp T.b__law_draw .nil pass0 (pa_cons (pv 1) (pa_cons (pe_op op_add (pe_callB call_len_str (by rfl) T.n_len PySem.boot_len (pa_cons (pv 3) pa_nil)) pe_int) pa_nil))))
    (pss_cons (ps_set (i := 5) sc_law.nd rfl (Or.inl rfl) (pe_ix (ix_listK (K := K) rfl) (pe_lst (pa_cons pe_str (pa_cons pe_str (pa_cons pe_str (pa_cons pe_str (pa_cons pe_str (pa_cons pe_str (pa_cons pe_str (pa_cons pe_str (pa_cons pe_str (pa_cons pe_str (pa_cons pe_str (pa_cons pe_str pa_nil))))))))))))) (pe_call (ok__law_draw (K := K) T) (hr.mono (by decide)) rfl T.g__law_draw T.f__law_draw.kp T.b__law_draw .nil pass0 (pa_cons (pv 1) (pa_cons pe_int pa_nil))) (fun _ _ => rfl)))
    (pss_cons (ps_set (i := 6) sc_law.nd rfl (Or.inl rfl) (pe_call (ok__law_draw (K := K) T) (hr.mono (by decide)) rfl T.g__law_draw T.f__law_draw.kp T.b__law_draw .nil pass0 (pa_cons (pv 1) (pa_cons pe_int pa_nil))))
    (C8.pss_cut (ps_if (pt_cmpR op_eq (pv 6) pe_int (nomark _))
    (pss_one (ps_set (i := 3) sc_law.nd rfl (Or.inl rfl) (pe_op op_add_str (pe_slice sl_str (pv 3) po_none (po_some (pv 4))) (pe_slice sl_str (pv 3) (po_some (pe_op op_add (pv 4) pe_int)) po_none))))
    (pss_one (ps_if (pt_cmpR op_eq (pv 6) pe_int (nomark _))
    (pss_one (ps_set (i := 3) sc_law.nd rfl (Or.inl rfl) (pe_op op_add_str (pe_op op_add_str (pe_slice sl_str (pv 3) po_none (po_some (pv 4))) (pv 5)) (pe_slice sl_str (pv 3) (po_some (pv 4)) po_none))))
    (pss_one (ps_if (pt_cmpR op_eq (pv 6) pe_int (nomark _))
    (pss_one (ps_set (i := 3) sc_law.nd rfl (Or.inl rfl) (pe_op op_add_str (pe_op op_add_str (pe_slice sl_str (pv 3) po_none (po_some (pv 4))) (pv 5)) (pe_slice sl_str (pv 3) (po_some (pe_op op_add (pv 4) pe_int)) po_none))))
    (pss_one (ps_set (i := 3) sc_law.nd rfl (Or.inl rfl) (pe_ix (ix_listK (K := K) rfl) (pe_lst (pa_cons pe_str (pa_cons pe_str (pa_cons pe_str (pa_cons pe_str (pa_cons pe_str (pa_cons pe_str (pa_cons pe_str (pa_cons pe_str (pa_cons pe_str (pa_cons pe_str pa_nil))))))))))) (pe_call (ok__law_draw (K := K) T) (hr.mono (by decide)) rfl T.g__law_draw T.f__law_draw.kp T.b__law_draw .nil pass0 (pa_cons (pv 1) (pa_cons pe_int pa_nil))) (fun _ _ => rfl)))))))))
    (pss_cons (ps_set (i := 7) sc_law.nd rfl (Or.inl rfl) (pe_call (ok__law_read (K := K) T) (hr.mono (by decide)) rfl T.g__law_read T.f__law_read.kp T.b__law_read .nil pass0 (pa_cons (pv 3) pa_nil)))
    (pss_cons (ps_set (i := 8) sc_law.nd rfl (Or.inl rfl) (pe_call (ok__law_told (K := K) T) (hr.mono (by decide)) rfl T.g__law_told T.f__law_told.kp T.b__law_told .nil pass0 (pa_cons (pv 3) pa_nil)))
    (pss_cons (ps_if (pt_cmpR op_isN (pv 7) pe_non (nomark _))
    (pss_one (ps_ret (pe_and (pe_callB (call_isiK' (K := K) rfl) (by rfl) T.n_isinstance (by decide +kernel) (pa_cons (pv 8) (pa_cons (pe_bltn (v := .ty "str") rfl T.n_str (by decide +kernel) rfl) pa_nil))) (pe_one (pe_cmpR op_eq (pv 8) pe_str (nomark _))))))
    pss_nil)
    (pss_one (ps_ret (pe_call (ok__law_is (K := K) T) (hr.mono (by decide)) rfl T.g__law_is T.f__law_is.kp T.b__law_is .nil pass0 (pa_cons (pv 8) (pa_cons (pv 7) pa_nil))))))))))))))))))), ?_⟩
    walk_at "go"
    refine ⟨a, ns, rfl, hS, h63, fun s0 H1 e1 hS1 => ?_⟩
    walk_at "go"
    intro p1 n d H2 e2 hp1 lo bn bd
    have hS2 := hS1.mono e2
    walk_at "go"
    intro v h0 h1
    walk_at "go"
    refine ite_d (fun c => ?_) (fun c => ?_)
    · walk_at "go"
      exact fun H' => k H'
    · walk_at "go"
      refine r_ixT (SqT.of hp1) rfl ?_
      walk_at "go"
      refine ⟨log_bits bn, ?_⟩
      walk_at "go"
      have tn := tl_int n
      have td := tl_int d
      have ln := int_short bn
      have ld := int_short bd
      refine r_cut (fun σ H' => H' = H2 ∧ ∃ y : Str, σ = [some (.ref a), some (.ref s0), some (.ref p1), some (.str y), none, none, none, none, none] ∧ y.cps.toList = ratL n d) ?_ ?_
      · walk_at "go"
        refine r_ixT (SqT.of hp1) rfl ?_
        walk_at "go"
        have o1 : (Str.ofString "/").length = 1 := by decide +kernel
        have cs : (Str.ofString "/").cps.toList = [47] := by decide +kernel
        have len1 : (Str.ofString (toString n)).length ≤ 212 := by rw [str_len, show (Str.ofString (toString n)).cps.toList = intL n from tl_int n]; exact ln
        have len2 : (Str.ofString (toString d)).length ≤ 212 := by rw [str_len, show (Str.ofString (toString d)).cps.toList = intL d from tl_int d]; exact ld
        refine ite_nd (fun c => ?_) (fun c => ?_)
        · walk_at "go"
          refine ⟨by rw [sizeLine_eq]; omega, ?_⟩
          walk_at "go"
          refine r_ixT (SqT.of hp1) rfl ?_
          walk_at "go"
          refine ⟨log_bits bd, ?_⟩
          walk_at "go"
          refine ⟨by rw [Str.length_append, sizeLine_eq]; omega, ?_⟩
          walk_at "go"
          refine ⟨rfl, _, rfl, ?_⟩
          unfold ratL
          rw [if_neg (fun t => c (congrArg V.int t)), Str.cps_append, Str.cps_append, Array.toList_append, Array.toList_append, tl_int, tl_int, cs, List.append_assoc]
          rfl
        · walk_at "go"
          refine ⟨rfl, _, rfl, ?_⟩
          unfold ratL
          rw [if_pos (vint_inj c), tl_int]
      · rintro σ H' ⟨rfl, y, rfl, hy⟩
        have ly : y.length ≤ 425 := by rw [str_len, hy]; exact rat_short bn bd
        walk_at "go"
        refine r_ixT (SqT.of hp1) rfl ?_
        walk_at "go"
        refine r_ixT (SqT.of hp1) rfl ?_
        walk_at "go"
        intro z dx nz ndx _
        refine made_at2 (K := K) nz ndx lo (fun H3 e3 rx => ?_)
        walk_at "go"
        refine .inr ⟨z, _, _, rfl, rx, bits_big bn, bits_big bd, fun y' H4 e4 hy' => ?_⟩
        have q1 : decide (V.str y' = V.str y) = true := str_true (by rw [hy', hy])
        walk_at "go"
        rw [q1]
        walk_at "go"
        rw [hy, readR_text lo]
        refine ⟨fun n1 d1 hn q H5 e5 rq => ?_, fun hn => (by cases hn)⟩
        obtain ⟨rfl, rfl⟩ := pair_inj hn
        have e25 := (e3.trans e4).trans e5
        have hS5 := hS2.mono e25
        have hp5 := e25 _ _ hp1
        walk_at "go"
        refine ⟨q, p1, _, _, _, _, rfl, rq, SqT.of hp5, ?_⟩
        rw [both_true]
        walk_at "go"
        refine ⟨by rw [sizeLine_eq]; omega, ?_⟩
        refine ⟨_, _, rfl, rfl, ?_⟩
        apply r_nilA
        refine draw_at (s := s0) (n := (y.length : Int) + 1) hS5 (by omega) (by omega) (fun at0 h2 h3 => ?_)
        walk_at "go"
        intro l1 hl1
        have hS6 := hS5.mono (same_new (o := .lst (signs4.map V.str)) hl1)
        have hL6 : upd H5 l1 (.lst (signs4.map V.str)) l1 = some (.lst (signs4.map V.str)) := upd_same
        show tCall _ _ _ _ _ (upd H5 l1 (.lst (signs4.map V.str))) _
        generalize upd H5 l1 (.lst (signs4.map V.str)) = H6 at *
        walk_at "go"
        intro v3 h4 h5
        obtain ⟨sg, hsg, hat⟩ := atI_strs (xs := signs4) h4 h5
        have lsg := signs4_len sg hsg
        walk_at "go"
        refine r_ixL (SqL.of hL6) hat ?_
        walk_at "go"
        intro pick h6 h7
        have lys : y.length ≤ sizeLine := by rw [sizeLine_eq]; omega
        have la := cut_len y none (some at0)
        have lb := cut_len y (some (at0 + 1)) none
        have lc := cut_len y (some at0) none
        walk_at "go"
        refine r_cut (fun σ H' => ∃ y2 : Str, σ = [some (.ref a), some (.ref s0), some (.ref p1), some (.str y2), some (.int at0), some (.str sg), some (.int pick), none, none] ∧ y2.length ≤ 1000) ?_ ?_
        · walk_at "go"
          refine ite_d (fun c0 => ?_) (fun c0 => ?_)
          · walk_at "go"
            refine ⟨by rw [sizeLine_eq]; omega, _, rfl, ?_⟩
            rw [Str.length_append]
            omega
          · walk_at "go"
            refine ite_d (fun c1 => ?_) (fun c1 => ?_)
            · walk_at "go"
              refine ⟨by rw [sizeLine_eq]; omega, ?_⟩
              walk_at "go"
              refine ⟨by rw [Str.length_append, sizeLine_eq]; omega, _, rfl, ?_⟩
              rw [Str.length_append, Str.length_append]
              omega
            · walk_at "go"
              refine ite_d (fun c2 => ?_) (fun c2 => ?_)
              · walk_at "go"
                refine ⟨by rw [sizeLine_eq]; omega, ?_⟩
                walk_at "go"
                refine ⟨by rw [Str.length_append, sizeLine_eq]; omega, _, rfl, ?_⟩
                rw [Str.length_append, Str.length_append]
                omega
              · walk_at "go"
                intro l3 hl3
                have hS7 := hS6.mono (same_new (o := .lst (odd4.map V.str)) hl3)
                have hL7 : upd H6 l3 (.lst (odd4.map V.str)) l3 = some (.lst (odd4.map V.str)) := upd_same
                show tCall _ _ _ _ _ (upd H6 l3 (.lst (odd4.map V.str))) _
                generalize upd H6 l3 (.lst (odd4.map V.str)) = H7 at *
                walk_at "go"
                intro v4 h8 h9
                obtain ⟨od, hod, hat2⟩ := atI_strs (xs := odd4) h8 h9
                have lod := odd4_len od hod
                walk_at "go"
                refine r_ixL (SqL.of hL7) hat2 ?_
                exact ⟨od, rfl, by omega⟩
        · rintro σ H7 ⟨y2, rfl, l2⟩
          walk_at "go"
          refine ⟨fun n2 d2 hr2 p2 H8 e8 hp2 => ?_, fun hr2 H8 e8 => ?_⟩
          · walk_at "go"
            rw [hr2]
            refine ⟨fun n3 d3 hn q H9 e9 rq => ?_, fun hn => (by cases hn)⟩
            obtain ⟨rfl, rfl⟩ := pair_inj hn
            walk_at "go"
            refine ⟨q, p2, _, _, _, _, rfl, rq, SqT.of (e9 _ _ hp2), ?_⟩
            rw [both_true]
            exact k _
          · walk_at "go"
            rw [hr2]
            refine ⟨fun n3 d3 hn => (by cases hn), fun _ H9 e9 => ?_⟩
            walk_at "go"
            refine r_isi (.base (.str _)) (.ty _) (of_decide_eq_true T.x_kit_t_str_t_str) ?_
            walk_at "go"
            exact k _
end
theorem facts {P : Program} {w : World} {K : PySem.W.Frag} {h : Heap} {mg : Str → Option Value} {f : Addr} (X : K.In h) (G : h.Ns mainGlobals mg) (hfa : mg ("law" : Str) = some (.ref f)) (c : SaysS faL fnL exB K) :
    ∃ fd : FuncData, (∀ (s : Shared) (v : Value), BindsTo s fd ⟨[v], []⟩ [("script", v)]) ∧ ∀ base : Heap, K.In base → base.Ns mainGlobals mg → FnOk P w K mg base CX0 7 f fd ["script"] (spLaw K) := by
  have T : Top w K mg := ⟨h, X, G, c⟩
  have e := hfa.symm.trans T.g_law
  cases e
  have b := FunD.bindsA (ps := ["script"]) (show FunD K "law" "law" (defArgs s_law) (defBody s_law) (defScope s_law) [] (d_law.kws K) (He.ga K "law") (fdOf K d_law) from T.f_law) fun _ _ _ _ _ _ us hl => match us, hl with | [_], _ => rfl
  exact ⟨fdOf K d_law, fun s v => b s [v] rfl, fun base _ _ => ok_law T⟩
end Lk
open PySem PySem.W PySem.Calls PyProof.Rows
set_option maxRecDepth 100000 in
set_option maxHeartbeats 0 in
theorem PySem.Challenge.cw_linkwork_k04_texts_of_values_holds : PySem.Challenge.rw_linkwork_k04_texts_of_values.Holds := by
  w_on; o_law
  refine HeadRun.head_imp (r := OpenLaw.row PySem.Challenge.rw_linkwork_k04_texts_of_values) (q := Lk.qv) (H := Lk.hk) (ob := Lk.ob) (M := 4000) (loose := Lk.looseL) (d := HandSHeadRun.topDef (OpenLaw.row PySem.Challenge.rw_linkwork_k04_texts_of_values).prog 25) (kwd := []) Lk.ob_eq Lk.run (by kernel_rfl) (by kernel_rfl) (by kernel_rfl) (by rfl) (by first | assumption | decide +kernel) (by decide +kernel) ⟨rfl, rfl, rfl, rfl, rfl, by decide +kernel⟩ ?hw ?hc
  case hw => w_witness2
  case hc =>
    refine L2.walk_ofE (l := PySem.Challenge.rw_linkwork_k04_texts_of_values) (n := 63) (k := 7) (x := "script") (CX := L2.CX0) rfl (by decide) (by kernel_rfl) ⟨rfl, by decide, by decide⟩ ?F (fun _ _ _ _ z => z)
    intro w mg fa h Y G hmg0
    obtain ⟨K, KX, c⟩ := Y
    have hmg : mg ("law" : PySem.Str) = some (.ref fa) := by
      have e : (HandSHeadRun.topDef (OpenLaw.row PySem.Challenge.rw_linkwork_k04_texts_of_values).prog 25).name = ("law" : PySem.Str) := by kernel_rfl
      rw [← e]
      exact hmg0
    obtain ⟨fd, hb, hF⟩ := Lk.facts (P := (PySem.Challenge.rw_linkwork_k04_texts_of_values).prog) (w := w) KX G hmg c
    exact ⟨K, fd, Lk.spLaw K, KX, hb, fun H a ns hl _ hS => ⟨a, ns, rfl, hS, hl, fun _ => rfl⟩, hF⟩

