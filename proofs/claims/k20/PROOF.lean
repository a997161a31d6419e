import PyProof.Rows.All
import Wide.All
import OpenK.AllK
import Wide.FinOn
import KE.KStateDown
import HandS.Base
import HandS.Call
import HandS.List
import HandS.Comp
import HandS.Ends
import HandS.Dict
import HandS.Iter
import HandS.Text
import HandS.StrMore
import HandS.More
import HandS.Words
import HandS.WordsList
import HandS.WordsExc
import HandS.Exc
import HandS.ExcOwn
import HandS.ExcIs
import HandS.TryOnly
import HandS.IsInst
import HandS.Codes
import HandS.Defaults
import HandS.Wide
import HandS.Gcd
import KE.KOpsOwn
import KE.HD0
import KE.HD1
import KE.HD2
import KE.HD3
import HandS.Head0
import HandS.Head1
import HandS.Head2
import HandS.HeadEnd
import HandS.HeadHook1
import HandS.HeadHook2
import HandS.HeadHook3
import HandS.HeadHook4
import Flt.Len
import PyProof.NoPylong
import HandS.ExcInit
import HandS.ExcField
import HandS.FStr
import HandS.Evl
import PySem.Challenge.RW_linkwork_k20_tokens
set_option Elab.async false
set_option linter.all false
set_option maxRecDepth 100000
namespace Lk
open PySem PySem.Spec L2
open PyProof.Rows hiding St
/-! ### the head's facts, the interpreter's own statics among what is written -/
def asS (g : Addr → Option Obj) (n : Nat) : List Addr := He.asD g n ++ [cStatics]
abbrev AlS : Type := He.AlD × Bool
def obsS (n : Nat) (fa : List He.Fa) (fn : List He.DefD) (ex : PySem.W.Frag → Bool) (g : Addr → Option Obj) : AlS := (He.obsD fa fn (He.frT g (asS g n)), ex (He.frT g (asS g n)))
structure SaysS (fa : List He.Fa) (fn : List He.DefD) (ex : PySem.W.Frag → Bool) (K : PySem.W.Frag) : Prop where
  d : He.SaysD fa fn K
  more : ex K = true
def hookS (n : Nat) (fa : List He.Fa) (fn : List He.DefD) (ex : PySem.W.Frag → Bool) : PySem.W.Hook where
  α := AlS
  obs := fun s => obsS n fa fn ex s.heap.get?
  val := fun _ => (He.valD fn, true)
  says := fun _ h => ∃ K : PySem.W.Frag, K.In h ∧ SaysS fa fn ex K
  of := fun _ _ e => ⟨_, He.frT_in, ⟨congrArg (fun z : AlS => z.1) e, congrArg (fun z : AlS => z.2) e⟩⟩
  keeps := fun _ _ _ z k => by
    obtain ⟨K, hK, c⟩ := z
    exact ⟨K, PySem.W.Frag.In.keeps hK k, c⟩
theorem obsS_eq {n : Nat} {fa : List He.Fa} {fn : List He.DefD} {ex : PySem.W.Frag → Bool} {g : Addr → Option Obj} {s : Shared} (h : ∀ a, g a = s.heap.get? a) : obsS n fa fn ex g = (hookS n fa fn ex).obs s := by
  have e : g = s.heap.get? := funext h
  rw [e] <;> rfl
/-! ### steps of a reading, from the left -/
section
variable {σ : St} {H : Hp} {Q : VK} {ta tb te : TE} {i : Nat} {v x y : V} {nx : St → Hp → Prop} {rt : VK} {bk ct : St → Hp → Prop} {t u : TS} {c : TT}
theorem r_seq (h : t ⟨fun σ H => u ⟨nx, rt, bk, ct⟩ σ H, rt, bk, ct⟩ σ H) : tSeq t u ⟨nx, rt, bk, ct⟩ σ H := h
theorem r_set (h : te σ H fun x H1 => nx (σ.set i (some x)) H1) : tAsg te (gName i) ⟨nx, rt, bk, ct⟩ σ H := h
theorem r_ret (h : te σ H rt) : tRet te ⟨nx, rt, bk, ct⟩ σ H := h
theorem r_next (h : nx σ H) : tNext ⟨nx, rt, bk, ct⟩ σ H := h
theorem r_drop (h : te σ H fun _ H1 => nx σ H1) : tDrop te ⟨nx, rt, bk, ct⟩ σ H := h
theorem r_if (h : c σ H fun b H1 => if b = true then t ⟨nx, rt, bk, ct⟩ σ H1 else u ⟨nx, rt, bk, ct⟩ σ H1) : tIfS c t u ⟨nx, rt, bk, ct⟩ σ H := h
theorem r_brk (h : bk σ H) : tBreak ⟨nx, rt, bk, ct⟩ σ H := h
theorem r_cont (h : ct σ H) : tCont ⟨nx, rt, bk, ct⟩ σ H := h
theorem r_var (e : σ[i]? = some (some v)) (h : Q v H) : tVar i σ H Q := ⟨v, e, h⟩
theorem r_c (h : Q v H) : tC v σ H Q := h
theorem r_op {r : R2} (h : ta σ H fun x H1 => tb σ H1 fun y H2 => r x y H2 Q) : tOp r ta tb σ H Q := h
theorem r_un {r : V → Hp → VK → Prop} (h : ta σ H fun x H1 => r x H1 Q) : tUn r ta σ H Q := h
theorem r_I0 {g : Int → Int → V} {i j : Int} (h : Q (g i j) H) : rI0 g (.int i) (.int j) H Q := ⟨i, j, rfl, rfl, h⟩
theorem r_I {C : Int → Int → Prop} {g : Int → Int → V} {i j : Int} (hc : C i j) (h : Q (g i j) H) : rI C g (.int i) (.int j) H Q := ⟨i, j, rfl, rfl, hc, h⟩
theorem r_U {g : Int → V} {i : Int} (h : Q (g i) H) : rU g (.int i) H Q := ⟨i, rfl, h⟩
theorem r_eq (hs : scal x y = true) (h : Q (.bl (decide (x = y))) H) : rEq x y H Q := ⟨hs, h⟩
theorem r_ne (hs : scal x y = true) (h : Q (.bl (!decide (x = y))) H) : rNe x y H Q := ⟨hs, h⟩
theorem r_test {P : Bool → Hp → Prop} (h : te σ H fun x H' => ∃ k, x = .bl k ∧ P k H') : tTest te σ H P := h
theorem r_B {P : Bool → Hp → Prop} (h : te σ H fun x H' => ∃ k, x = .bl k ∧ P k H') : tB te σ H P := h
theorem r_bl {b : Bool} {P : Bool → Prop} (h : P b) : ∃ k, V.bl b = .bl k ∧ P k := ⟨b, rfl, h⟩
theorem r_nilA {P : List V → Hp → Prop} (h : P [] H) : tNil σ H P := h
theorem r_consA {tr : TA} {P : List V → Hp → Prop} (h : te σ H fun x H1 => tr σ H1 fun xs H2 => P (x :: xs) H2) : tCons te tr σ H P := h
theorem r_call {sp : Sp} {dvs : List V} {E : XK} {t : TA} (h : t σ H fun vs H1 => sp (vs ++ dvs) H1 Q E) : tCall sp dvs E t σ H Q := h
theorem r_callS {sp : Sp} {E : St → XK} {t : TA} (h : t σ H fun vs H1 => sp vs H1 Q (E σ)) : tCallS sp E t σ H Q := h
theorem r_CB {r : List V → Hp → VK → Prop} {t : TA} (h : t σ H fun vs H1 => r vs H1 Q) : tCB r t σ H Q := h
theorem r_tup {t : TA} (h : t σ H fun xs H1 => xs.length ≤ sizeLine ∧ ∀ p, H1 p = none → Q (.ref p) (upd H1 p (.tup xs))) : tTup t σ H Q := h
theorem r_lst {t : TA} (h : t σ H fun xs H1 => xs.length ≤ sizeLine ∧ ∀ p, H1 p = none → Q (.ref p) (upd H1 p (.lst xs))) : tLst t σ H Q := h
theorem r_and {u : TT} {P : Bool → Hp → Prop} (h : c σ H fun k H1 => if k = true then u σ H1 P else P false H1) : tAnd c u σ H P := h
theorem r_or {u : TT} {P : Bool → Hp → Prop} (h : c σ H fun k H1 => if k = true then P true H1 else u σ H1 P) : tOr c u σ H P := h
theorem r_not {P : Bool → Hp → Prop} (h : c σ H fun k H1 => P (!k) H1) : tNot c σ H P := h
theorem r_andV (h : ta σ H fun x H1 => ∃ k, x = .bl k ∧ if k = true then tb σ H1 Q else Q (.bl false) H1) : tAndV ta tb σ H Q := h
theorem r_orV (h : ta σ H fun x H1 => ∃ k, x = .bl k ∧ if k = true then Q (.bl true) H1 else tb σ H1 Q) : tOrV ta tb σ H Q := h
theorem r_notV (h : ta σ H fun x H1 => ∃ k, x = .bl k ∧ Q (.bl (!k)) H1) : tNotV ta σ H Q := h
theorem r_ifE (h : c σ H fun k H1 => if k = true then ta σ H1 Q else tb σ H1 Q) : tIf c ta tb σ H Q := h
theorem r_ixL {K : PySem.W.Frag} {p : Addr} {xs : List V} {i : Int} (hs : SqL K H p xs) (ha : atI xs i = some v) (h : Q v H) : rIxL K (.ref p) (.int i) H Q := ⟨p, xs, i, v, rfl, rfl, hs, ha, h⟩
theorem r_ixT {K : PySem.W.Frag} {p : Addr} {xs : List V} {i : Int} (hs : SqT K H p xs) (ha : atI xs i = some v) (h : Q v H) : rIxT K (.ref p) (.int i) H Q := ⟨p, xs, i, v, rfl, rfl, hs, ha, h⟩
theorem r_fld {K : PySem.W.Frag} {f : Str} (h : ta σ H fun x H1 => ∃ a C dx fs v, x = .ref a ∧ H1 a = some (.ins C dx fs) ∧ Cls K C ∧ NoAttr K C f ∧ fs.lookup f = some v ∧ Q v H1) : tFld K ta f σ H Q := h
theorem r_sub {to ti : TE} {ts : TSet} {D : St → Hp → Prop} (h : to σ H fun o H1 => ti σ H1 fun i H2 => ts o i v H2 fun H3 => D σ H3) : gSub to ti ts v σ H D := h
theorem r_asg {g : TG} (h : te σ H fun x H1 => g x σ H1 nx) : tAsg te g ⟨nx, rt, bk, ct⟩ σ H := h
theorem r_setL {D : Hp → Prop} {p : Addr} {xs : List V} {k : Int} {j : Nat} (hp : H p = some (.lst xs)) (hj : ixN xs.length k = some j) (h : D (upd H p (.lst (xs.set j v)))) : rSetL (.ref p) (.int k) v H D := ⟨p, xs, k, j, rfl, rfl, hp, hj, h⟩
theorem r_par {i j : Nat} {ta : TA} (h : ta σ H fun vs H1 => ∃ v w, vs = [v, w] ∧ nx ((σ.set i (some v)).set j (some w)) H1) : tPar i j ta ⟨nx, rt, bk, ct⟩ σ H := h
theorem r_par2 {v w : V} {P : V → V → Prop} (h : P v w) : ∃ a b, [v, w] = [a, b] ∧ P a b := ⟨v, w, rfl, h⟩
theorem ite_d {p A B : Prop} [Decidable p] (h1 : p → A) (h2 : ¬ p → B) : if decide p = true then A else B := by
  by_cases h : p
  · rw [if_pos (decide_eq_true h)]; exact h1 h
  · rw [if_neg (by simp [h])]; exact h2 h
theorem ite_nd {p A B : Prop} [Decidable p] (h1 : ¬ p → A) (h2 : p → B) : if (!decide p) = true then A else B := by
  by_cases h : p
  · rw [if_neg (by simp [h])]; exact h2 h
  · rw [if_pos (by simp [h])]; exact h1 h
theorem ite_b {b : Bool} {A B : Prop} (h1 : b = true → A) (h2 : b = false → B) : if b = true then A else B := by
  cases b with
  | true => exact if_pos rfl ▸ h1 rfl
  | false => exact if_neg Bool.false_ne_true ▸ h2 rfl
theorem vint_inj {i j : Int} (h : V.int i = V.int j) : i = j := V.int.inj h
theorem vint_ne {i j : Int} (h : ¬ V.int i = V.int j) : ¬ i = j := fun e => h (congrArg V.int e)
theorem vstr_inj {i j : Str} (h : V.str i = V.str j) : i = j := V.str.inj h
end
/-- a module's constant -/
theorem pe_globE {X : Cx} {x : Str} {v : V} {pos : Pos} (hg : Gl X x) (h : ∃ u, X.mg x = some u ∧ RelV v u) (hd : (x == ("__debug__" : Str)) = false := by decide) : PE X (.Name x pos) (tC v) := by
  obtain ⟨u, hm, r⟩ := h
  exact pe_glob hg hm r hd
/-- // of any divisor but 0 below 2 ^ 9000 -/
def CDivG (_ j : Int) : Prop := j ≠ 0 ∧ j.natAbs.log2 < 9000
theorem op_fdivG {X : Cx} : OpR X (binaryOp .FloorDiv) (rI CDivG fun i j => .int (i.fdiv j)) := opI fun i j _ _ _ _ _ hc q => floordiv_int hc.1 q (.inl (PyProof.noPylong_of_log2 hc.2))
theorem cdivG {i j : Int} {b : Nat} (h : j ≠ 0) (hb : j.natAbs < 2 ^ b) (h0 : 0 < b) (h9 : b ≤ 9000) : CDivG i j := ⟨h, Nat.lt_of_lt_of_le (PySem.Flt.log2_lt_of h0 hb) h9⟩
theorem r_int1 {H : Hp} {Q : VK} {i : Int} (h : Q (.int i) H) : (∃ j, [V.int i] = [.int j] ∧ Q (.int j) H) ∨ ∃ k, [V.int i] = [.bl k] ∧ Q (.int (if k then 1 else 0)) H := .inl ⟨i, rfl, h⟩
theorem r_intB {H : Hp} {Q : VK} {k : Bool} (h : Q (.int (if k then 1 else 0)) H) : (∃ j, [V.bl k] = [.int j] ∧ Q (.int j) H) ∨ ∃ k', [V.bl k] = [.bl k'] ∧ Q (.int (if k' then 1 else 0)) H := .inr ⟨k, rfl, h⟩
theorem r_abs {H : Hp} {Q : VK} {i : Int} (h : Q (.int (if i < 0 then -i else i)) H) : ∃ j, [V.int i] = [.int j] ∧ Q (.int (if j < 0 then -j else j)) H := ⟨i, rfl, h⟩
/-! ### one step, at the goal's head -/

theorem r_lenL {K : PySem.W.Frag} {H : Hp} {Q : VK} {p : Addr} {ys : List V} (hs : SqL K H p ys) (h : Q (.int ys.length) H) : ∃ q zs, [V.ref p] = [.ref q] ∧ (SqL K H q zs ∨ SqT K H q zs) ∧ Q (.int zs.length) H := ⟨p, ys, rfl, .inl hs, h⟩
theorem r_lenT {K : PySem.W.Frag} {H : Hp} {Q : VK} {p : Addr} {ys : List V} (hs : SqT K H p ys) (h : Q (.int ys.length) H) : ∃ q zs, [V.ref p] = [.ref q] ∧ (SqL K H q zs ∨ SqT K H q zs) ∧ Q (.int zs.length) H := ⟨p, ys, rfl, .inr hs, h⟩
theorem r_listL {K : PySem.W.Frag} {H : Hp} {Q : VK} {p : Addr} {ys : List V} (hs : SqL K H p ys) (h : ∀ l, H l = none → Q (.ref l) (upd H l (.lst ys))) : ∃ q zs, [V.ref p] = [.ref q] ∧ (SqL K H q zs ∨ SqT K H q zs) ∧ ∀ l, H l = none → Q (.ref l) (upd H l (.lst zs)) := ⟨p, ys, rfl, .inl hs, h⟩
theorem r_sfld {K : PySem.W.Frag} {ta tv : TE} {f : Str} {nx : St → Hp → Prop} {rt : VK} {bk ct : St → Hp → Prop} {σ : St} {H : Hp}
    (h : tv σ H fun y H1 => ta σ H1 fun x H2 => ∃ a C dx fs, x = .ref a ∧ H2 a = some (.ins C dx fs) ∧ Cls K C ∧ NoAttr K C f ∧ fs.length < 1000 ∧ nx σ (upd H2 a (.ins C dx (putF f y fs)))) : sFld K ta tv f ⟨nx, rt, bk, ct⟩ σ H := h
/-! ### how large an int is -/
def Bits (b : Nat) (i : Int) : Prop := i.natAbs < 2 ^ b
theorem Bits.mono {a b : Nat} {i : Int} (h : Bits a i) (l : a ≤ b) : Bits b i := Nat.lt_of_lt_of_le h (Nat.pow_le_pow_right (by decide) l)
theorem Bits.mul {a b : Nat} {i j : Int} (h : Bits a i) (g : Bits b j) : Bits (a + b) (i * j) := wide_lt h g
theorem Bits.add {a b c : Nat} {i j : Int} (h : Bits a i) (g : Bits b j) (l1 : a < c) (l2 : b < c) : Bits c (i + j) := by
  have h2 : i.natAbs < 2 ^ (c - 1) := Bits.mono (b := c - 1) h (by omega)
  have g2 : j.natAbs < 2 ^ (c - 1) := Bits.mono (b := c - 1) g (by omega)
  have e : 2 ^ c = 2 ^ (c - 1) + 2 ^ (c - 1) := by
    obtain ⟨k, rfl⟩ : ∃ k, c = k + 1 := ⟨c - 1, by omega⟩
    rw [Nat.add_sub_cancel, Nat.pow_succ]
    omega
  show (i + j).natAbs < 2 ^ c
  rw [e]
  have := Int.natAbs_add_le i j
  omega
theorem Bits.neg {a : Nat} {i : Int} (h : Bits a i) : Bits a (-i) := by
  show (-i).natAbs < _
  rw [Int.natAbs_neg]
  exact h
theorem Bits.sub {a b c : Nat} {i j : Int} (h : Bits a i) (g : Bits b j) (l1 : a < c) (l2 : b < c) : Bits c (i - j) := by
  rw [Int.sub_eq_add_neg]
  exact Bits.add h g.neg l1 l2
theorem Bits.small {i : Int} {b : Nat} (h : i.natAbs < 18446744073709551616) (l : 64 ≤ b) : Bits b i := Bits.mono (a := 64) (show i.natAbs < 2 ^ 64 from h) l
theorem Bits.mulW {a b : Nat} {i j : Int} (h : Bits a i) (g : Bits b j) (l : a + b + 2 ≤ 1000000) : CMulW i j := wide_mul (h.mono (Nat.le_succ a)) (g.mono (Nat.le_succ b)) (Nat.succ_pos _) (Nat.succ_pos _) (by omega)
theorem Bits.divG {b : Nat} {i j : Int} (h : j ≠ 0) (g : Bits b j) (l : b + 1 ≤ 9000) : CDivG i j := cdivG h (g.mono (Nat.le_succ b)) (Nat.succ_pos _) l
theorem Bits.of_le {b : Nat} {i j : Int} (h : i.natAbs ≤ j.natAbs) (g : Bits b j) : Bits b i := Nat.lt_of_le_of_lt h g
theorem ite_nt {A B : Prop} (h : B) : if (!true) = true then A else B := iteF h
theorem ite_nf {A B : Prop} (h : A) : if (!false) = true then A else B := iteT h
/-! ### the law's stream: a list of the script's copy and three ints; told as ONE thing, so that a draw leaves the abstract heap as it is -/
def okS (j k : Int) : Prop := 0 ≤ j ∧ 0 ≤ k ∧ k < 2147483648
def phiS (s l : Addr) : Heap → Prop := fun h => ∃ (i j k : Int) (t u v : Tok) (n : Nat), h.get? s = some { cls := .type "list", data := .seq #[.ref l, .int i t, .int j u, .int k v] n } ∧ okS j k
def Strm (H : Hp) (s : Addr) : Prop := ∃ (l : Addr) (ns : List Int), H s = some (.ext (phiS s l)) ∧ H l = some (.lst (ns.map V.int)) ∧ ns.length ≤ 63
theorem Strm.mono {H H' : Hp} {s : Addr} (h : Strm H s) (e : Same H H') : Strm H' s := by
  obtain ⟨l, ns, h1, h2, h3⟩ := h
  exact ⟨l, ns, e _ _ h1, e _ _ h2, h3⟩
def cellsV (l : Addr) (i j k : Int) : List V := [.ref l, .int i, .int j, .int k]
theorem Vals.cells {l : Addr} {i j k : Int} {us : List Value} (h : Vals (cellsV l i j k) us) : ∃ t u v, us = [.ref l, .int i t, .int j u, .int k v] := by
  unfold cellsV at h
  cases h with
  | cons r0 h => cases h with
    | cons r1 h => cases h with
      | cons r2 h => cases h with
        | cons r3 h =>
          cases h
          obtain ⟨t, rfl⟩ := r1
          obtain ⟨u, rfl⟩ := r2
          obtain ⟨v, rfl⟩ := r3
          cases (show _ = Value.ref l from r0)
          exact ⟨t, u, v, rfl⟩
section
variable {X : Cx} {pins : List (Addr × Obj)} {σ : St} {H : Hp} {s : Shared} {a l : Addr}
/-- the abstract heap is told otherwise at one address, the heap stays -/
theorem Inv.retell {o o' : HO} (I : Inv X pins σ H s) (ha : H a = some o) (m : Mut (some o)) (m' : Mut (some o')) (new : ObjOk X.prog X.w (upd H a o') s.heap a o') : Inv X pins σ (upd H a o') s := by
  have hx : ∀ b u, H b = some u → ¬ Mut (some u) → b ≠ a := fun b u e nm z => by
    rw [z, ha] at e
    cases e
    exact nm m
  have un : Un X.fs [] H (upd H a o') s.heap s.heap := ⟨fun _ _ e _ _ _ => e, fun b ob e _ _ _ => ⟨ob.slots, e⟩, fun b ob e n _ => by
      rw [upd_ne (show b ≠ a from fun z => by rw [z, ha] at n; cases n)]; exact n, fun b ob e _ => ⟨ob, e⟩,
    fun b xs e => by rw [upd_ne (hx b _ e fun z => z)]; exact e, fun b ob u e => by rw [upd_ne (hx b _ e fun z => z)]; exact e, fun b ps e => ⟨#[], by rw [upd_ne (hx b _ e fun z => z), e]; simp⟩⟩
  have mu : Mut (H a) := by rw [ha]; exact m
  have hk : HOk X.prog X.w (upd H a o') s.heap := by
    obtain ⟨u, hu⟩ := objOk_get (I.hok a _ ha)
    exact I.hok.write mu (.inl rfl) (fun _ _ _ e => e) ⟨u, hu⟩ new
  exact I.un (h' := s.heap) (t' := s.toks) un hk
theorem phi_open {h : Heap} (P : Program) (w : World) (H : Hp) (x : ObjOk P w H h a (.ext (phiS a l))) : ∃ i j k : Int, okS j k ∧ ObjOk P w (upd H a (.lst (cellsV l i j k))) h a (.lst (cellsV l i j k)) := by
  obtain ⟨⟨i, j, k, t, u, v, n, e, hj⟩, _⟩ := x
  exact ⟨i, j, k, hj, (by show 4 ≤ sizeLine; decide), _, n, .cons rfl (.cons ⟨t, rfl⟩ (.cons ⟨u, rfl⟩ (.cons ⟨v, rfl⟩ .nil))), e⟩
theorem phi_close {h : Heap} {P : Program} {w : World} {H H' : Hp} {i j k : Int} (x : ObjOk P w H h a (.lst (cellsV l i j k))) (hj : okS j k) : ObjOk P w H' h a (.ext (phiS a l)) := by
  obtain ⟨_, its, n, r, e⟩ := x
  obtain ⟨t, u, v, rfl⟩ := Vals.cells r
  refine ⟨⟨i, j, k, t, u, v, n, e, hj⟩, ⟨_, e⟩, fun h1 h2 ⟨i, j, k, t, u, v, n, e, hj⟩ st => ⟨i, j, k, t, u, v, n, st _ e, hj⟩⟩
/-- within: the stream's four cells are told; behind: one thing again -/
def shutS (a l : Addr) (N : St → Hp → Prop) : St → Hp → Prop := fun σ H => ∃ i j k : Int, H a = some (.lst (cellsV l i j k)) ∧ okS j k ∧ N σ (upd H a (.ext (phiS a l)))
def shutV (a l : Addr) (N : VK) : VK := fun v H => ∃ i j k : Int, H a = some (.lst (cellsV l i j k)) ∧ okS j k ∧ N v (upd H a (.ext (phiS a l)))
def tOpen (a l : Addr) (t : TS) : TS := fun D σ H => H a = some (.ext (phiS a l)) ∧ ∀ i j k : Int, okS j k → t ⟨shutS a l D.nx, shutV a l D.rt, shutS a l D.bk, shutS a l D.ct⟩ σ (upd H a (.lst (cellsV l i j k)))
theorem Inv.shut {i j k : Int} (I : Inv X pins σ H s) (ha : H a = some (.lst (cellsV l i j k))) (hj : okS j k) : Inv X pins σ (upd H a (.ext (phiS a l))) s :=
  Inv.retell I ha trivial trivial (phi_close (I.hok a _ ha) hj)
theorem r_open {t : TS} {nx : St → Hp → Prop} {rt : VK} {bk ct : St → Hp → Prop} (h : H a = some (.ext (phiS a l))) (k : ∀ i j k : Int, okS j k → t ⟨shutS a l nx, shutV a l rt, shutS a l bk, shutS a l ct⟩ σ (upd H a (.lst (cellsV l i j k)))) : tOpen a l t ⟨nx, rt, bk, ct⟩ σ H := ⟨h, k⟩
theorem pss_open {body : List Stmt} {t : TS} (a l : Addr) (h : PSs X body t) : PSs X body (tOpen a l t) := by
  refine ⟨fun pins s σ H D I q => ?_⟩
  obtain ⟨ha, q⟩ := q
  obtain ⟨i, j, k, hj, ok⟩ := phi_open (a := a) (l := l) X.prog X.w H (I.hok a _ ha)
  refine thn (h.run pins s σ _ _ (Inv.retell (o' := .lst (cellsV l i j k)) I ha trivial trivial ok) (q i j k hj)) fun f s1 z => ?_
  cases f with
  | next =>
    obtain ⟨σ', H', I', i, j, k, e, hj, n⟩ := z
    exact ⟨σ', _, Inv.shut I' e hj, n⟩
  | brk =>
    obtain ⟨σ', H', I', i, j, k, e, hj, n⟩ := z
    exact ⟨σ', _, Inv.shut I' e hj, n⟩
  | cont =>
    obtain ⟨σ', H', I', i, j, k, e, hj, n⟩ := z
    exact ⟨σ', _, Inv.shut I' e hj, n⟩
  | ret u =>
    obtain ⟨v, σ', H', I', r, i, j, k, e, hj, n⟩ := z
    exact ⟨v, σ', _, Inv.shut I' e hj, r, n⟩
/-- a list of four is told as a stream where it is handed back -/
def tShut (t : TS) : TS := fun D σ H => t ⟨D.nx, fun v H' => ∃ (a l : Addr) (i j k : Int), v = .ref a ∧ H' a = some (.lst (cellsV l i j k)) ∧ okS j k ∧ D.rt v (upd H' a (.ext (phiS a l))), D.bk, D.ct⟩ σ H
theorem r_shut {t : TS} {nx : St → Hp → Prop} {rt : VK} {bk ct : St → Hp → Prop} (h : t ⟨nx, fun v H' => ∃ (a l : Addr) (i j k : Int), v = .ref a ∧ H' a = some (.lst (cellsV l i j k)) ∧ okS j k ∧ rt v (upd H' a (.ext (phiS a l))), bk, ct⟩ σ H) : tShut t ⟨nx, rt, bk, ct⟩ σ H := h
theorem pss_shut {body : List Stmt} {t : TS} (h : PSs X body t) : PSs X body (tShut t) := by
  refine ⟨fun pins s σ H D I q => ?_⟩
  refine thn (h.run pins s σ _ _ I q) fun f s1 z => ?_
  cases f with
  | ret u =>
    obtain ⟨v, σ', H', I', r, a, l, i, j, k, rfl, e, hj, n⟩ := z
    exact ⟨_, σ', _, Inv.shut I' e hj, r, n⟩
  | next => exact z
  | brk => exact z
  | cont => exact z
end
/-- what the stream leaves behind is the heap ahead -/
theorem upd_back {H : Hp} {a : Addr} {o o' : HO} (h : H a = some o') : upd (upd H a o) a o' = H := by
  funext b
  by_cases e : b = a
  · rw [e, upd_same, h]
  · rw [upd_ne e, upd_ne e]
theorem upd_back2 {H : Hp} {a : Addr} {o o1 o' : HO} (h : H a = some o') : upd (upd (upd H a o) a o1) a o' = H := by
  rw [upd_upd, upd_back h]
theorem upd_back3 {H : Hp} {a : Addr} {o o1 o2 o' : HO} (h : H a = some o') : upd (upd (upd (upd H a o) a o1) a o2) a o' = H := by
  rw [upd_upd, upd_upd, upd_back h]
/-! ### C(..) where what its __init__ raises is wished for at the slots -/
section
variable {X : Cx} {CX : CXT} {k : Nat} {f C : Addr} {fd : FuncData} {ps : List Str} {sp : Sp} {dvs : List V} {ds : List Value} {E : St → XK} {x : Str} {p pos : Pos} {e : Expr} {es : List Expr} {t : TA}
def tMakeS (C : Addr) (sp : Sp) (dvs : List V) (E : St → XK) (t : TA) : TE := fun σ H Q => t σ H fun vs H1 => ∀ x dx, H1 x = none → H1 dx = none → dx ≠ x →
  sp (.ref x :: (vs ++ dvs)) (upd (upd H1 dx (.own x)) x (.ins C dx [])) (fun v H2 => v = .non ∧ Q (.ref x) H2) (E σ)
theorem make_atS {pins : List (Addr × Obj)} {σ : St} {H : Hp} {s : Shared} {Q : VK} {us : List Value} {vs : List V} (mk : Mk X.K C f) (ok : FnOk X.prog X.w X.K X.mg X.base CX k f fd ps sp) (room : Room (k + 1) X.A) (bd : Binds X.K fd ps ds) (dv : Vals dvs ds)
    (pass : PassesAt CX X σ (E σ)) (I : Inv X pins σ H s) (rel : Vals vs us)
    (ask : ∀ x dx, H x = none → H dx = none → dx ≠ x → sp (.ref x :: (vs ++ dvs)) (upd (upd H dx (.own x)) x (.ins C dx [])) (fun v H2 => v = .non ∧ Q (.ref x) H2) (E σ)) :
    wpAny (model X.prog X.w) X.A (call (.ref C) us) (EP X pins σ Q) X.xe s := by
  let n := s.heap.objs.size
  have want := ask (n + 1) n (I.hok.fresh (Nat.le_succ _)) (I.hok.fresh (Nat.le_refl _)) (by show n ≠ n + 1; omega)
  have J := Inv.made (C := C) I
  have relS : Vals (V.ref (n + 1) :: (vs ++ dvs)) (Value.ref (n + 1) :: (us ++ ds)) := .cons rfl (rel.append dv)
  have many : (Value.ref (n + 1) :: us ++ ds).length = ps.length := relS.length.symm.trans (ok.len _ _ _ _ want)
  have go := ok.run _ X.stack _ _ ⟨Value.ref (n + 1) :: us, []⟩ (Value.ref (n + 1) :: (us ++ ds)) _ _ (E σ) (room.make C us []) (J.env0.make C us []) (bd _ (Value.ref (n + 1) :: us) J.kIn many) relS want
  refine wpAny_call (make_map (f := f) I.kIn mk.makes mk.init (beq_iff_eq.mp mk.fn) (codeAny_mono go fun out s' end_ => ?_))
  match out, end_ with
  | .error e, end_ => exact pass pins _ _ e s' J end_
  | .ok (.ret u), end_ =>
    obtain ⟨v, H', I3, rv, ev, q3⟩ := J.after end_
    cases ev
    exact ⟨rv, V.ref (n + 1), H', I3, rfl, q3⟩
  | .ok .next, end_ => exact end_.elim
  | .ok .brk, end_ => exact end_.elim
  | .ok .cont, end_ => exact end_.elim
theorem pe_makeS (mk : Mk X.K C f) (ok : FnOk X.prog X.w X.K X.mg X.base CX k f fd ps sp) (room : Room (k + 1) X.A) (gl : Gl X x) (gm : X.mg x = some (.ref C)) (bd : Binds X.K fd ps ds) (dv : Vals dvs ds) (pass : ∀ σ, PassesAt CX X σ (E σ))
    (args : PA X (e :: es) t) (d1 : (x == ("__debug__" : Str)) = false := by decide) (d2 : starEach (e :: es) X.env = (false, eval e X.env) :: starEach es X.env := by rfl) (d3 : (backTo pos (starEach es X.env)).any (·.1) = false := by rfl) :
    PE X (.Call (.Name x p) (e :: es) [] pos) (tMakeS C sp dvs E t) :=
  ⟨fun pins s σ H Q I h => wpAny_Call_Name_kw (ld_glob I gl gm (PySem.W.callWith_K (h₀ := X.base) I.ok.mod.kin mk.kp (thn (args.run pos pins s σ H _ I h) fun us s1 ⟨vs, H1, I1, r, q⟩ => ⟨I1.kIn, make_atS mk ok room bd dv (pass σ) I1 r q⟩) d2 d3) d1)⟩
theorem passX {E : XK} (tk : Takes X (fun cls d _ H => E cls d H)) : Passes (L2.CX X.prog X.w) X E := fun pins σ H s e s' I c => passes_call tk (fun _ _ _ _ z => z) pins σ H s e s' I c
end
section
variable {σ : St} {H : Hp} {Q : VK} {C : Addr} {sp : Sp} {dvs : List V} {t : TA}
theorem r_make {E : XK} (h : t σ H fun vs H1 => ∀ x dx, H1 x = none → H1 dx = none → dx ≠ x → sp (.ref x :: (vs ++ dvs)) (upd (upd H1 dx (.own x)) x (.ins C dx [])) (fun v H2 => v = .non ∧ Q (.ref x) H2) E) : tMake C sp dvs E t σ H Q := h
theorem r_makeS {E : St → XK} (h : t σ H fun vs H1 => ∀ x dx, H1 x = none → H1 dx = none → dx ≠ x → sp (.ref x :: (vs ++ dvs)) (upd (upd H1 dx (.own x)) x (.ins C dx [])) (fun v H2 => v = .non ∧ Q (.ref x) H2) (E σ)) : tMakeS C sp dvs E t σ H Q := h
end
/-! ### loops -/
def forR (J : It) (g : TG) (tb : TS) (D : Ends) (σ : St) (H : Hp) : Prop := ∃ W : Nat → Nat → St → Hp → Prop, (∃ m, W 0 m σ H) ∧ ∀ i m σ H, W i m σ H →
  (J.stop i H ∧ D.nx σ H) ∨ (J.go i H ∧ ∃ N : St → Hp → Prop, (∀ σ' H', N σ' H' → ∃ m', m' < m ∧ W (i + 1) m' σ' H') ∧ ∀ x H', J.yld i H x H' → g x σ H' fun σ2 H2 => tb { D with nx := N, ct := N, bk := D.nx } σ2 H2)
section
variable {σ : St} {H : Hp} {wi : TI} {g : TG} {tb : TS} {nx : St → Hp → Prop} {rt : VK} {bk ct : St → Hp → Prop} {ta : TA} {tl : TE} {K : PySem.W.Frag} {a : Addr} {xs : List V} {k : Nat} {c : TT}
theorem r_for (h : wi σ H fun J H1 => forR J g tb ⟨nx, rt, bk, ct⟩ σ H1) : tFor wi g tb ⟨nx, rt, bk, ct⟩ σ H := h
theorem r_iRng1 {R : It → Hp → Prop} (h : ta σ H fun vs H1 => ∃ j : Int, vs = [.int j] ∧ -(2 ^ 62) ≤ j ∧ j < 2 ^ 62 ∧ R (Itr 0 j.toNat) H1) : iRng1 ta σ H R := h
theorem r_iList {R : It → Hp → Prop} (h : tl σ H fun x H1 => ∃ a, x = .ref a ∧ (∃ xs, SqL K H1 a xs) ∧ R (Itl K a) H1) : iList K tl σ H R := h
theorem r_rng1 {i : Int} {P : It → Prop} (h1 : -(2 ^ 62) ≤ i) (h2 : i < 2 ^ 62) (h : P (Itr 0 i.toNat)) : ∃ j : Int, [V.int i] = [.int j] ∧ -(2 ^ 62) ≤ j ∧ j < 2 ^ 62 ∧ P (Itr 0 j.toNat) := ⟨i, rfl, h1, h2, h⟩
theorem r_lstI {P : It → Prop} (hs : SqL K H a xs) (h : P (Itl K a)) : ∃ b, V.ref a = .ref b ∧ (∃ xs, SqL K H b xs) ∧ P (Itl K b) := ⟨a, rfl, ⟨xs, hs⟩, h⟩
theorem for_rng {lo : Int} {n : Nat} (Pv : Nat → St → Hp → Prop) (h0 : Pv 0 σ H) (hs : ∀ i σ H, i < n → Pv i σ H → tb ⟨Pv (i + 1), rt, nx, Pv (i + 1)⟩ (σ.set k (some (.int (lo + (i : Int))))) H) (hd : ∀ σ H, Pv n σ H → nx σ H) :
    forR (Itr lo n) (gName k) tb ⟨nx, rt, bk, ct⟩ σ H := for_range (D := ⟨nx, rt, bk, ct⟩) Pv h0 hs hd
theorem for_lst (Pv : Nat → St → Hp → Prop) (h0 : Pv 0 σ H) (hl : ∀ i σ H, i ≤ xs.length → Pv i σ H → SqL K H a xs) (hs : ∀ i x σ H, xs[i]? = some x → Pv i σ H → tb ⟨Pv (i + 1), rt, nx, Pv (i + 1)⟩ (σ.set k (some x)) H) (hd : ∀ σ H, Pv xs.length σ H → nx σ H) :
    forR (Itl K a) (gName k) tb ⟨nx, rt, bk, ct⟩ σ H := for_list (D := ⟨nx, rt, bk, ct⟩) Pv h0 hl hs hd
/-- a while by a word with a measure; behind the test: ⟨_, fun _ _ n => n, ..⟩ -/
theorem r_while (W : Nat → St → Hp → Prop) (m0 : Nat) (h0 : W m0 σ H) (hs : ∀ m σ H, W m σ H → c σ H fun b H1 => if b = true then ∃ N : St → Hp → Prop, (∀ σ' H', N σ' H' → ∃ m', m' < m ∧ W m' σ' H') ∧ tb ⟨N, rt, nx, N⟩ σ H1 else nx σ H1) :
    tWhile c tb ⟨nx, rt, bk, ct⟩ σ H := ⟨W, ⟨m0, h0⟩, hs⟩
theorem r_cut {t u : TS} (Mid : St → Hp → Prop) (h1 : t ⟨Mid, rt, bk, ct⟩ σ H) (h2 : ∀ σ H, Mid σ H → u ⟨nx, rt, bk, ct⟩ σ H) : C8.tCut t u ⟨nx, rt, bk, ct⟩ σ H := ⟨Mid, h1, h2⟩
end
theorem same_new {H : Hp} {p : Addr} {o : HO} (h : H p = none) : Same H (upd H p o) := fun b u e => by rw [upd_ne (ne_of_none e h)]; exact e
theorem same_mk {H : Hp} {x dx : Addr} {o u : HO} (h1 : H x = none) (h2 : H dx = none) : Same H (upd (upd H dx o) x u) := fun b v e => by
  rw [upd_ne (ne_of_none e h1), upd_ne (ne_of_none e h2)]
  exact e
/-! ### facts of the top that the head tells as Bools -/
def excCB (K : PySem.W.Frag) (D : Addr) : Bool := [He.eqO (PySem.W.findIn K (.ref D) "__getattribute__") (some (some (.builtin "BaseException.__getattribute__"))), He.eqO (PySem.W.findIn K (.ref D) "__getattr__") (some none), decide (PySem.W.subIn K (.ref D) (.type "BaseException") = some true),
  PySem.W.hasDictIn K D, He.eqO (PySem.W.findIn K (.ref D) "__class__") (some (some (.builtin "object.__class__"))), He.eqO (PySem.W.specialIn K (.builtin "object.__class__") "__get__") (some (some (.builtin "getset_descriptor.__get__"))),
  decide (PySem.W.takesIn K (.builtin "object.__class__") = some true), decide (PySem.W.mroIn K D (.type "object") = some true)].all id
theorem all8 {b1 b2 b3 b4 b5 b6 b7 b8 : Bool} (h : [b1, b2, b3, b4, b5, b6, b7, b8].all id = true) : b1 = true ∧ b2 = true ∧ b3 = true ∧ b4 = true ∧ b5 = true ∧ b6 = true ∧ b7 = true ∧ b8 = true := by
  simpa using h
theorem excCB_ok {K : PySem.W.Frag} {D : Addr} (h : excCB K D = true) : ExcC K D := by
  obtain ⟨h1, h2, h3, h4, h5, h6, h7, h8⟩ := all8 h
  exact ⟨He.eqO_ok h1, He.eqO_ok h2, of_decide_eq_true h3, h4, He.eqO_ok h5, He.eqO_ok h6, of_decide_eq_true h7, of_decide_eq_true h8⟩
def isiCB (K : PySem.W.Frag) (D : Addr) : Bool := [He.eqO (PySem.W.findIn K (.ref D) "__class__") (some (some (.builtin "object.__class__"))), He.eqO (PySem.W.specialIn K (.builtin "object.__class__") "__get__") (some (some (.builtin "getset_descriptor.__get__"))),
  decide (PySem.W.takesIn K (.builtin "object.__class__") = some true), decide (PySem.W.mroIn K D (.type "object") = some true), true, true, true, true].all id
theorem isi_ins {K : PySem.W.Frag} {H : Hp} {a D dx : Addr} {fs : List (Str × V)} (h : isiCB K D = true) (c : Cls K D) (e : H a = some (.ins D dx fs)) : TyX K H (.ref a) (.ref D) := by
  obtain ⟨h1, h2, h3, h4, _⟩ := all8 h
  exact .base (.ins e c (He.eqO_ok h1) (He.eqO_ok h2) (of_decide_eq_true h3) (of_decide_eq_true h4))
theorem pss_given {X : Cx} {body : List Stmt} {t : TS} {P : Prop} (h : P → PSs X body t) : PSs X body (fun D σ H => P ∧ t D σ H) := ⟨fun pins s σ H D I q => (h q.1).run pins s σ H D I q.2⟩
theorem r_isi {K : PySem.W.Frag} {H : Hp} {Q : VK} {x c : V} {t u : Value} {b : Bool} (hx : TyX K H x t) (hc : ClsV c u) (e : PySem.W.kitOne K t u = some b) (h : Q (.bl b) H) : rIsi K [x, c] H Q := ⟨x, c, t, u, b, rfl, hc, hx, e, h⟩
/-! ### operators that a class of the program's own defines -/
section
variable {X : Cx} {CX : CXT} {n : Nat} {C g : Addr} {fd : FuncData} {ps : List Str} {sp : Sp} {E : XK}
def rBin (C : Addr) (sp : Sp) (E : XK) : R2 := fun x y H Q => ∃ a b dx dy fs gs, x = .ref a ∧ y = .ref b ∧ H a = some (.ins C dx fs) ∧ H b = some (.ins C dy gs) ∧ sp [.ref a, .ref b] H Q E
theorem back_of {R : Value → Shared → Prop} {z : V} {v : Value} {s' : Shared} (r : RelV z v) (h : R v s') : PySem.W.CmpBack R v s' := by
  cases z with
  | non => cases (show v = Value.none from r); exact h
  | bl b => cases (show v = Value.bool b from r); exact h
  | int i => obtain ⟨t, rfl⟩ := (show ∃ t, v = Value.int i t from r); exact h
  | str i => obtain ⟨t, rfl⟩ := (show ∃ t, v = Value.str i t from r); exact h
  | byt i => obtain ⟨t, rfl⟩ := (show ∃ t, v = Value.bytes i t from r); exact h
  | flt i => obtain ⟨t, rfl⟩ := (show ∃ t, v = Value.float i t from r); exact h
  | ref i => cases (show v = Value.ref i from r); exact h
  | ty i => cases (show v = Value.type i from r); exact h
theorem ins_inst {pins : List (Addr × Obj)} {σ : St} {H : Hp} {s : Shared} {a dx : Addr} {fs : List (Str × V)} (I : Inv X pins σ H s) (h : H a = some (.ins C dx fs)) : ∃ od, PySem.W.InstAt s.heap a (PySem.W.instObj C dx) C (some od) := by
  obtain ⟨mA, J, _⟩ := ins_get I.hok h
  obtain ⟨od, J, _⟩ := J.look
  exact ⟨od, J⟩
theorem op_bin {op : Operator} (first : PySem.W.selfFirst X.K C = true) (m : Meth X.K C (PySem.dunder op.info.2) g) (F : FnOk X.prog X.w X.K X.mg X.base CX n g fd ps sp) (bd : Binds X.K fd ps []) (room : Room n X.A) (pass : Passes CX X E) : OpR X (binaryOp op) (rBin C sp E) := by
  intro pins s σ H x y v u Q I rx ry h
  obtain ⟨a, b, dx, dy, fs, gs, rfl, rfl, ha, hb, q⟩ := h
  cases (show v = Value.ref a from rx)
  cases (show u = Value.ref b from ry)
  obtain ⟨od, J⟩ := ins_inst I ha
  obtain ⟨od', J'⟩ := ins_inst I hb
  obtain ⟨mF, hF⟩ := I.fr
  refine PySem.W.binop_K hF I.ok.mod.kin J J'.type first m.at_ m.fn ?_
  refine wpAny_mono (run_fn (vs := [.ref a, .ref b]) (us := [.ref a, .ref b]) F room bd .nil pass I (.cons rfl (.cons rfl .nil)) (by rw [List.append_nil]; exact q)) (fun w s' z => ?_) fun _ _ e => e
  obtain ⟨z', H', I', rz, qz⟩ := z
  exact back_of rz ⟨z', H', I', rz, qz⟩
def rUnO (C : Addr) (sp : Sp) (E : XK) : V → Hp → VK → Prop := fun x H Q => ∃ a dx fs, x = .ref a ∧ H a = some (.ins C dx fs) ∧ sp [.ref a] H Q E
theorem un_negO (m : Meth X.K C "__neg__" g) (F : FnOk X.prog X.w X.K X.mg X.base CX n g fd ps sp) (bd : Binds X.K fd ps []) (room : Room n X.A) (pass : Passes CX X E) : UnR X (unaryOp .USub) (rUnO C sp E) := by
  intro pins s σ H x v Q I rx h
  obtain ⟨a, dx, fs, rfl, ha, q⟩ := h
  cases (show v = Value.ref a from rx)
  obtain ⟨od, J⟩ := ins_inst I ha
  obtain ⟨mF, hF⟩ := I.fr
  exact PySem.W.ksp_neg hF I.ok.mod.kin J m.at_ m.fn (run_fn (vs := [.ref a]) (us := [.ref a]) F room bd .nil pass I (.cons rfl .nil) (by rw [List.append_nil]; exact q))
/-- == by an own __eq__, both answers -/
theorem op_eqO (m : Meth X.K C "__eq__" g) (F : FnOk X.prog X.w X.K X.mg X.base CX n g fd ps sp) (bd : Binds X.K fd ps []) (room : Room n X.A) (pass : Passes CX X E) : OpR X (compareOp .Eq) (rBin C sp E) := by
  intro pins s σ H x y v u Q I rx ry h
  obtain ⟨a, b, dx, dy, fs, gs, rfl, rfl, ha, hb, q⟩ := h
  cases (show v = Value.ref a from rx)
  cases (show u = Value.ref b from ry)
  obtain ⟨od, J⟩ := ins_inst I ha
  obtain ⟨od', J'⟩ := ins_inst I hb
  obtain ⟨mF, hF⟩ := I.fr
  show wpAny (model X.prog X.w) X.A (richCompare .Eq (.ref a) (.ref b)) (EP X pins σ Q) X.xe s
  refine PySem.W.cmp_K (op := .Eq) (tb := .ref C) room.units0 hF I.ok.mod.kin J J'.type (by simp [PySem.W.notFirst]) m.at_ m.fn ?_
  refine wpAny_mono (run_fn (vs := [.ref a, .ref b]) (us := [.ref a, .ref b]) F room bd .nil pass I (.cons rfl (.cons rfl .nil)) (by rw [List.append_nil]; exact q)) (fun w s' z => ?_) fun _ _ e => e
  obtain ⟨z', H', I', rz, qz⟩ := z
  exact back_of rz ⟨z', H', I', rz, qz⟩
end
/-! ### the rules with the written part by its letter -/
section
variable {X : Cx} {K : PySem.W.Frag} {e o : Expr} {f : Str} {pos pos' : Pos} {ta tv : TE} {value : Expr} {tg : Expr} {tl : TE}
theorem ix_listK (h : X.K = K) : IxR X (rIxL K) := by subst h; exact ix_list
theorem ix_tupK (h : X.K = K) : IxR X (rIxT K) := by subst h; exact ix_tup
theorem call_isiK' (h : X.K = K) : CallR X (.builtin "isinstance") (rIsi K) := by subst h; exact call_isi
theorem call_lenK (h : X.K = K) : CallR X (.builtin "len") (fun xs H Q => ∃ p ys, xs = [.ref p] ∧ (SqL K H p ys ∨ SqT K H p ys) ∧ Q (.int ys.length) H) := by subst h; exact call_len_seq
theorem call_listK (h : X.K = K) : CallR X (.type "list") (fun xs H Q => ∃ p ys, xs = [.ref p] ∧ (SqL K H p ys ∨ SqT K H p ys) ∧ ∀ l, H l = none → Q (.ref l) (upd H l (.lst ys))) := by subst h; exact call_list_of
theorem pe_fldK (h : X.K = K) (he : PE X e ta) (hb : attributeBase e f X.env (eval e X.env) = eval e X.env) : PE X (.Attribute e f pos) (tFld K ta f) := by subst h; exact pe_fld he hb
theorem ps_fldK (h : X.K = K) (ha : PE X o ta) (hv : PE X value tv) (hs : swapsWith value (some (.Attribute o f pos')) pos.line X.env = pure false) : PS X (.Assign [.Attribute o f pos'] value pos) (sFld K ta tv f) := by subst h; exact ps_fld ha hv hs
theorem pi_listK (h : X.K = K) (hl : PE X e tl) : PI X tg e (iList K tl) := by subst h; exact pi_list hl
theorem pi_tupK (h : X.K = K) (hl : PE X e tl) : PI X tg e (iTup K tl) := by subst h; exact pi_tup hl
theorem op_eqDK (h : X.K = K) (hu : X.A.units + 64 < cLine) : OpR X (compareOp .Eq) (rEqD K) := by subst h; exact op_eqD hu
theorem op_neDK (h : X.K = K) (hu : X.A.units + 64 < cLine) : OpR X (compareOp .NotEq) (rNeD K) := by subst h; exact op_neD hu
theorem op_inK (h : X.K = K) : OpR X (compareOp .In) (rIn K false) := by subst h; exact op_in_seq
theorem op_notInK (h : X.K = K) : OpR X (compareOp .NotIn) (rIn K true) := by subst h; exact op_notIn_seq
end
/-! ### a tuple of texts that the module holds -/
def strOf : Value → Option Str
  | .str x _ => some x
  | _ => none
def tupStrs (K : PySem.W.Frag) (a : Addr) (xs : List Str) : Bool := match K.lookup a with
  | some ⟨.type "tuple", _, .seq its _, _⟩ => decide (its.toList.map strOf = xs.map some)
  | _ => false
theorem vals_strs : ∀ (us : List Value) (xs : List Str), us.map strOf = xs.map some → Vals (xs.map V.str) us
  | [], [], _ => .nil
  | [], _ :: _, h => by cases h
  | _ :: _, [], h => by cases h
  | u :: us, x :: xs, h => by
    have h1 := (List.cons.inj h).1
    have h2 := (List.cons.inj h).2
    refine .cons ?_ (vals_strs us xs h2)
    cases u with
    | str y t => exact ⟨t, by rw [Option.some.inj h1]⟩
    | _ => cases h1
theorem tupStrs_ok {K : PySem.W.Frag} {H : Hp} {a : Addr} {xs : List Str} (h : tupStrs K a xs = true) (hl : xs.length ≤ 1000) : SqT K H a (xs.map V.str) := by
  unfold tupStrs at h
  split at h
  · rename_i od its n sl hk
    have e := of_decide_eq_true h
    have l := congrArg List.length e
    rw [List.length_map, List.length_map, Array.length_toList] at l
    exact .inr ⟨_, its, n, hk, rfl, rfl, by rw [l, sizeLine_eq]; omega, vals_strs _ _ e⟩
  · cases h
/-! ### an own exception whose __init__ calls its base's with a text, and keeps one field -/
def lwB (K : PySem.W.Frag) (L : Addr) : Bool := He.eqO (PySem.W.specialIn K (.ref L) "__getattribute__") (some (some (.builtin "type.__getattribute__"))) && (PySem.W.readsIn K L (.type "type") &&
  (match PySem.W.findCls K (.ref L) (.type "type") "__init__" with | some (.val v) => decide (v = .builtin "ValueError.__init__") | _ => false))
theorem lwB_ok {K : PySem.W.Frag} {L : Addr} (h : lwB K L = true) : PySem.W.specialIn K (.ref L) "__getattribute__" = some (some (.builtin "type.__getattribute__")) ∧ PySem.W.readsIn K L (.type "type") = true ∧
    PySem.W.findCls K (.ref L) (.type "type") "__init__" = some (.val (.builtin "ValueError.__init__")) := by
  unfold lwB at h
  obtain ⟨h1, h⟩ := Bool.and_eq_true_iff.mp h
  obtain ⟨h2, h3⟩ := Bool.and_eq_true_iff.mp h
  refine ⟨He.eqO_ok h1, h2, ?_⟩
  split at h3
  · rename_i v e
    rw [e, of_decide_eq_true h3]
  · cases h3
def oexB (K : PySem.W.Frag) (C fI : Addr) : Bool := [(match K.lookup C with
    | some ⟨.type "type", _, .cls cd, sl⟩ => (match cd.mro, sl.toList with
      | .ref D :: bm, [_, _, _, _, some (.builtin n), _] => [decide (D = C), decide (n = "ValueError.__new__"), !cd.hasDel, cd.hasDict, PySem.HandSPX.refsVE bm].all id
      | _, _ => false)
    | _ => false),
  He.eqO (PySem.W.findIn K (.ref C) "__setattr__") (some (some (.builtin "object.__setattr__"))), decide (PySem.W.subIn K (.ref C) (.type "BaseException") = some true), decide (PySem.W.typeIn K (.ref C) = some (.type "type")), PySem.W.keepIn K (.ref C),
  He.eqO (PySem.W.findIn K (.ref C) "__init__") (some (some (.ref fI))), decide (PySem.W.typeIn K (.ref fI) = some (.type "function")), true].all id
theorem oexB_ok {K : PySem.W.Frag} {C fI : Addr} (h : oexB K C fI = true) : OexC K C ∧ PySem.W.findIn K (.ref C) "__init__" = some (some (.ref fI)) ∧ PySem.W.typeIn K (.ref fI) = some (.type "function") := by
  obtain ⟨h1, h2, h3, h4, h5, h6, h7, _⟩ := all8 h
  refine ⟨⟨?_, He.eqO_ok h2, of_decide_eq_true h3, of_decide_eq_true h4, h5⟩, He.eqO_ok h6, of_decide_eq_true h7⟩
  split at h1
  · rename_i dd cd sl ho
    split at h1
    · rename_i D bm k0 k1 k2 k3 n k5 hm hs
      simp only [List.all_cons, List.all_nil, id_eq, Bool.and_true, Bool.and_eq_true, decide_eq_true_eq, Bool.not_eq_true'] at h1
      obtain ⟨rfl, rfl, hdel, hdct, hv⟩ := h1
      obtain ⟨nm, bs, mro, ns, qn, hd, sn, sub, ab, col, del⟩ := cd
      dsimp only at hm hdel hdct
      subst hm hdel hdct
      have hsl : sl = #[k0, k1, k2, k3, some (.builtin "ValueError.__new__"), k5] := by
        obtain ⟨l⟩ := sl
        simp only at hs
        rw [hs]
      subst hsl
      exact ⟨nm, qn, ns, bs, bm, sn, sub, ab, col, dd, k0, k1, k2, k3, k5, ho, hv⟩
    · cases h1
  · cases h1
section
variable {X : Cx} {e : Expr} {es : List Expr} {ta : TA} {x : Str} {L : Addr} {p1 p2 pos : Pos}
theorem pe_lwinit {pl : Sem Bool} (hB : lwB X.K L = true) (hg : Gl X x) (hm : X.mg x = some (.ref L)) (ha : PA X (e :: es) ta) (hdb : (x == ("__debug__" : Str)) = false := by decide)
    (hc : eval (.Call (.Attribute (.Name x p1) "__init__" p2) (e :: es) [] pos) X.env = (do
      let ov ← eval (.Name x p1) X.env
      standAt p2.atName
      let (f, first) ← holding [ov] (getMethod ov "__init__" pl)
      callWith pos f first (backTo pos (starEach (e :: es) X.env)) (backToKw pos (keywordEach [] X.env))) := by rfl)
    (he : starEach (e :: es) X.env = (false, eval e X.env) :: starEach es X.env := by rfl) (hpl : (backTo pos (starEach es X.env)).any (·.1) = false := by rfl) :
    PE X (.Call (.Attribute (.Name x p1) "__init__" p2) (e :: es) [] pos) (tVeI X.K ta) := by
  refine ⟨fun pins s σ H Q I h => ?_⟩
  obtain ⟨b1, b2, b3⟩ := lwB_ok hB
  refine PySem.W.methodCall_KW (ld_glob I hg hm ?_ hdb) hc
  obtain ⟨m, fr⟩ := I.fr
  refine PySem.W.method_of_cls fr I.ok.mod.kin b1 (PySem.W.cls_value (I.ok.mod.kin.keeps fr.keep) b2 b3 (by decide +kernel) ?_)
  show wpAny _ _ (callWith pos (Value.builtin "ValueError.__init__") [] (backTo pos (starEach (e :: es) X.env)) []) _ _ _
  refine PyProof.Rows.callWith_method1 (thn (ha.run pos pins _ σ H _ (I.tok _) h) fun us s1 hu => ?_) he hpl
  obtain ⟨vs, H1, I1, r1, a, C, ws, ev, hl, T, ea, q⟩ := hu
  subst ev
  cases r1 with
  | @cons _ u0 _ ur ra rw' =>
    obtain rfl : u0 = Value.ref a := ra
    exact oinit_ok T I1 ea (by rw [← Paired.length rw', sizeLine_eq]; omega) fun s' J => ⟨.non, H1, J, rfl, q⟩
end
/-- C(i) leaves behind: the class, and its dict with the one field -/
theorem upd_raise {H : Hp} {a d dx : Addr} {o1 o2 o3 o4 : HO} (ha : H a = none) (hd : H d = none) (ne : dx ≠ a) (e : d = dx) : upd (del (upd (upd (upd H a o1) dx o2) a o3) a) d o4 = upd H d o4 := by
  subst e
  funext b
  by_cases h1 : b = d
  · rw [h1, upd_same, upd_same]
  · rw [upd_ne h1, upd_ne h1]
    by_cases h2 : b = a
    · rw [h2, del_same, ha]
    · rw [del_ne h2, upd_ne h2, upd_ne h1, upd_ne h2]
def spExc (K : PySem.W.Frag) (C : Addr) (f : Str) (ok : V → Prop) : Sp := fun vs H Q _ => ∃ (a : Addr) (v : V), vs = [.ref a, v] ∧ H a = some (exo a C none) ∧ ok v ∧ ∀ dx, H dx = none → dx ≠ a → Q .non (upd (upd H dx (exd dx [(f, v)])) a (exo a C (some dx)))
theorem exd_inj {d e : Addr} {fs gs : List (Str × V)} (h : exd d fs = exd d gs) : True := trivial
/-- raise C(v), C's __init__ keeping spExc -/
theorem r_raiseE {K : PySem.W.Frag} {C : Addr} {f : Str} {ok : V → Prop} {t : TA} {σ : St} {H : Hp} {Q : XK}
    (h : t σ H fun vs H1 => ∃ v, vs = [v] ∧ ok v ∧ ∀ d, H1 d = none → Q (.ref C) (some d) (upd H1 d (.xd [(f, v)]))) (mono : ∀ P P' : List V → Hp → Prop, (∀ vs H1, P vs H1 → P' vs H1) → t σ H P → t σ H P') : tMkO C (spExc K C f ok) [] t σ H Q := by
  refine mono _ _ (fun vs H1 q => ?_) h
  obtain ⟨v, rfl, hv, k⟩ := q
  refine ⟨by show 1 ≤ 1000; decide, fun a ha => ⟨a, v, rfl, upd_same, hv, fun dx hdx ne => ⟨rfl, dx, [(f, v)], upd_same, by rw [upd_ne ne, upd_same], ?_, ?_⟩⟩⟩
  · rw [upd_ne ne] at hdx
    exact hdx
  · have hd : H1 dx = none := by
      rw [upd_ne ne] at hdx
      exact hdx
    rw [upd_raise ha hd ne rfl]
    exact k dx hd
theorem op_mul_str {X : Cx} : OpR X (binaryOp .Mult) (fun x y H Q => ∃ z n, x = .str z ∧ y = .int n ∧ MulOk z n ∧ Q (.str (Txt.mul z n)) H) := by
  intro pins s σ H x y v u Q I rx ry h
  obtain ⟨z, n, rfl, rfl, hz, q⟩ := h
  obtain ⟨t, rfl⟩ := rx
  obtain ⟨t', rfl⟩ := ry
  exact PySem.SB.mul hz fun t' tk => ⟨.str (Txt.mul z n), H, I.tok _, ⟨_, rfl⟩, q⟩
section
variable {σ : St} {H : Hp} {g : TG} {tb : TS} {nx : St → Hp → Prop} {rt : VK} {bk ct : St → Hp → Prop} {tl : TE} {K : PySem.W.Frag} {a : Addr} {xs : List V} {k : Nat}
theorem r_iTup {R : It → Hp → Prop} (h : tl σ H fun x H1 => ∃ a, x = .ref a ∧ (∃ xs, SqT K H1 a xs) ∧ R (Itt K a) H1) : iTup K tl σ H R := h
theorem r_tupI {P : It → Prop} (hs : SqT K H a xs) (h : P (Itt K a)) : ∃ b, V.ref a = .ref b ∧ (∃ xs, SqT K H b xs) ∧ P (Itt K b) := ⟨a, rfl, ⟨xs, hs⟩, h⟩
theorem for_tpl (Pv : Nat → St → Hp → Prop) (h0 : Pv 0 σ H) (hl : ∀ i σ H, i ≤ xs.length → Pv i σ H → SqT K H a xs) (hs : ∀ i x σ H, xs[i]? = some x → Pv i σ H → tb ⟨Pv (i + 1), rt, nx, Pv (i + 1)⟩ (σ.set k (some x)) H) (hd : ∀ σ H, Pv xs.length σ H → nx σ H) :
    forR (Itt K a) (gName k) tb ⟨nx, rt, bk, ct⟩ σ H := for_tup (D := ⟨nx, rt, bk, ct⟩) Pv h0 hl hs hd
theorem r_tXf {x : V} {cls : Value} {d : Option Addr} {C : Addr} {f : Str} {te : TE} {Q : VK} (h : te σ H fun x H1 => x = .ref a ∧ cls = .ref C ∧ ∃ (dd : Addr) (fs : List (Str × V)) (v : V), d = some dd ∧ H1 dd = some (.xd fs) ∧ fs.lookup f = some v ∧ Q v H1) : tXf a cls d C f te σ H Q := h
end
/-! ### isinstance of a caught error that has a dict of its own -/
namespace Xd
open PySem.W PySem.Calls
section
variable {prog : Program} {w : World} {A : Around} {E : Value → Shared → Prop} {s : Shared} {K : Frag} {x D : Addr} {ox : Obj}
theorem find_cls {od : Option Obj} (C : ExcC K D) : findObj K D od "__class__" = some (.bind (.builtin "getset_descriptor.__get__") (.builtin "object.__class__")) := by
  obtain ⟨cd, hc, _⟩ := any_some C.hd
  unfold findObj
  rw [hc, Option.bind_some, C.ha, Option.bind_some]
  simp [C.hn, C.ht]
theorem cls_of {Q : Option Value → Shared → Prop} {od : Option Obj} (C : ExcC K D) (X : K.In s.heap) (I : PySem.W.InstAt s.heap x ox D od) (h : Q (some (.ref D)) { s with toks := s.toks + 1 }) : wpAny (model prog w) A (getAttr? (.ref x) "__class__") Q E s := by
  have hf := find_cls (od := od) C
  obtain ⟨hp, g, d, t, os⟩ := s
  have T0 := I.type (M := model prog w)
  have T1 := looks_findIn (M := model prog w) X C.hg
  have T2 := looks_findIn (M := model prog w) X C.hk
  have T3 := looks_find (M := model prog w) X I hf
  have sub : Looks (model prog w) hp (isInstance (.ref x) (.type "BaseException")) true := T0.andThen (looks_subIn X C.hs)
  have n2 : (Value.builtin "BaseException.__getattribute__" == Value.builtin "object.__getattribute__") = false := by decide +kernel
  unfold getAttr? getAttrBy? getAttrBy
  refine wpAny_bind (wpAny_mkText (wpAny_bind (wpAny_attempt (wpAny_holding (wpAny_bind (T0.at (wpAny_bind (T1.at ?_))))))))
  show wpAny _ _ (if (onTheHeap (Value.ref D) && Value.builtin "BaseException.__getattribute__" == Value.builtin "object.__getattribute__") = true then _ else _) _ _ _
  rw [n2, Bool.and_false, if_neg Bool.false_ne_true]
  (unfold getAttrByItsOwn hookBefore; refine wpAny_bind ?_; rw [if_pos (show onTheHeap (Value.ref D) = true from rfl)])
  refine T2.at (wpAny_bind (wpAny_attempt (wpAny_holding ?_)))
  (unfold callGetattribute; rw [show (false && onTheHeap (Value.builtin "BaseException.__getattribute__")) = false from rfl, if_neg Bool.false_ne_true])
  (unfold boundAndCalled; rw [PySem.F.excAttr_ValueError.ga.bind (.ref x)])
  refine wpAny_bind (wpAny_pure ?_)
  show wpAny _ _ (call (.builtin "BaseException.__getattribute__") [.ref x, .str "__class__" t]) _ _ _
  refine wpAny_call (codeAny_call_builtin PySem.F.excAttr_ValueError.ga.plain PySem.F.entry_bexc_ga (@check_slot (model prog w) _ _ ⟨hp, g, d, t + 1, os⟩ "BaseException.__getattribute__" "BaseException" "__getattribute__" (.ref x) [.str "__class__" t] [] _ (by decide +kernel) (by decide +kernel) sub (PySem.F.args_bexc_ga (.ref x) (.str "__class__" t)) ?_))
  (unfold Builtin.«object.__getattribute__»; refine wpAny_bind (wpAny_of_eq (a := ((Value.ref x : Value), [Value.str "__class__" t])) (by first | rfl | (simp only [slotArgs]; rfl)) ?_))
  refine wpAny_bind (wpAny_pure (wpAny_bind (T0.at (wpAny_bind (T3.at ?_)))))
  show wpAny _ _ (holding [Value.builtin "object.__class__"] (call (.builtin "getset_descriptor.__get__") [.builtin "object.__class__", .ref x, .ref D]) >>= ret) _ _ _
  refine wpAny_bind (wpAny_holding (wpAny_call (class_get (s := ⟨hp, g, d, t + 1, os⟩) (ox := ox) (od := od) X I C.hm (wpAny_pure ?_))))
  (show wpAny _ _ (handedOut (.ref D)) _ _ _; rw [handedOut_of (v := .ref D) rfl])
  first
    | exact wpAny_pure (wpAny_pure h)
    | exact wpAny_pure (wpAny_bind (wpAny_pure (wpAny_pure h)))
theorem not_cls {h : Heap} {o : Obj} {D' : Addr} (hd : hasDictIn K D = true) (X : K.In h) (e : h.get? D' = some o) (hs : ∀ cd, o.data ≠ .cls cd) : D ≠ D' := fun z => by
  obtain ⟨cdD, hcD, _⟩ := any_some hd
  unfold clsIn at hcD
  split at hcD
  · rename_i c' d' cd' sl' ho
    rw [← z, X _ _ ho] at e
    cases e
    exact hs cd' rfl
  · cases hcD
theorem kit (C : ExcC K D) : KitX K (.ref x) (.ref D) (fun h => ∃ od, PySem.W.InstAt h x ox D od) where
  ty := fun M h X I => by
    obtain ⟨od, I⟩ := I
    exact I.type
  it := fun M h X _ => (handS_kitx_exc (x := x) (ox := ox) C.hg C.hk C.hs C.hd C.ha C.hn C.ht C.hm).it M h X |> fun f => by
    obtain ⟨cdD, hcD, _⟩ := any_some C.hd
    unfold clsIn at hcD
    split at hcD
    · rename_i c' d' cd' sl' ho
      intro A' Q' E' s' k q
      (unfold isType loadHead; exact wpAny_bind (wpAny_loadPart (k _ _ (X _ _ ho)) (wpAny_pure q)))
    · cases hcD
  ne := fun h tp dd its n sl X htp => Bool.eq_false_iff.mpr fun q => not_cls C.hd X htp (fun cd z => by cases z) (Value.ref.inj (beq_iff_eq.mp q))
  ca := fun X I k => by
    obtain ⟨od, I⟩ := I
    exact cls_of C X I k
end
end Xd
def rIsD (K : PySem.W.Frag) (D a : Addr) (d : Option Addr) : List V → Hp → VK → Prop := fun xs H Q => ∃ (c : V) (cv : Value) (b : Bool) (dd : Addr) (fs : List (Str × V)), xs = [.ref a, c] ∧ (∀ u, RelV c u → u = cv) ∧ PySem.W.kitOne K (.ref D) cv = some b ∧ d = some dd ∧ H dd = some (.xd fs) ∧ Q (.bl b) H
theorem call_isD {X : Cx} {a D : Addr} {d : Option Addr} {oe : Obj} {pn : List (Addr × Obj)} {cls : Value} (ec : cls = .ref D) (C : ExcC X.K D) (hz : Zc cls d oe) (hf : ∃ vs, oe.data = .fields vs) : CallR (X.suite a ((a, oe) :: pn)) (.builtin "isinstance") (rIsD X.K D a d) := by
  intro pins s σ H xs us Q I r h
  subst ec
  obtain ⟨c, cv, b, dd, fs, rfl, hcv, e, rfl, hdd, q⟩ := h
  cases r with
  | cons rx rr =>
    cases rr with
    | cons rt rr =>
      cases rr
      cases rx
      obtain rfl := hcv _ rt
      obtain ⟨hget, _⟩ := I.pin (a, oe) (List.mem_append.mpr (.inl List.mem_cons_self))
      obtain ⟨vs, hv⟩ := hf
      obtain ⟨od, hod⟩ := objOk_get (I.hok dd _ hdd)
      have J : PySem.W.InstAt s.heap a oe D (some od) := by
        obtain ⟨oc, ob, oda, osl⟩ := oe
        obtain ⟨h1, h2⟩ := hz
        (dsimp only at h1 h2 hv; subst h1 h2 hv)
        exact ⟨hget, rfl, rfl, hod⟩
      exact PySem.W.kia_one (Xd.kit C) I.kIn ⟨_, J⟩ e (fun z => nomatch z) fun tk => ⟨.bl b, H, I.kept (t' := tk) fun _ _ z => z, rfl, q⟩
/-! ### one step, at the goal's head -/
local macro_rules | `(tactic| walk_at "go1") => `(tactic| first
  | (with_reducible apply r_seq) | (with_reducible apply r_set) | (with_reducible apply r_if) | (with_reducible apply r_ret) | (with_reducible apply r_next)
  | (with_reducible apply r_op) | (with_reducible apply r_c) | ((with_reducible apply r_var); exact rfl) | (with_reducible apply r_consA) | (with_reducible apply r_nilA)
  | (with_reducible apply r_call) | (with_reducible apply r_callS) | (with_reducible apply r_CB) | (with_reducible apply r_I0) | (with_reducible apply r_test) | (with_reducible apply r_bl)
  | (with_reducible apply r_B) | (with_reducible apply r_un) | (with_reducible apply r_U) | ((with_reducible apply r_eq); exact rfl) | ((with_reducible apply r_ne); exact rfl)
  | (with_reducible apply r_and) | (with_reducible apply r_or) | (with_reducible apply r_not) | (with_reducible apply r_andV) | (with_reducible apply r_orV) | (with_reducible apply r_notV) | (with_reducible apply r_ifE)
  | (with_reducible apply r_asg) | (with_reducible apply r_sub) | (with_reducible apply r_par) | (with_reducible apply r_drop) | (with_reducible apply r_brk) | (with_reducible apply r_cont)
  | (with_reducible apply r_fld) | (with_reducible apply r_tup) | (with_reducible apply r_lst))
local macro_rules | `(tactic| walk_at "go") => `(tactic| repeat walk_at "go1")
local macro_rules | `(tactic| walk_at "go1") => `(tactic| first | (with_reducible apply r_make) | (with_reducible apply r_makeS))
local macro_rules | `(tactic| walk_at "go1") => `(tactic| first | (with_reducible apply r_for) | (with_reducible apply r_iRng1) | (with_reducible apply r_iList))
local macro_rules | `(tactic| walk_at "go1") => `(tactic| first | ((with_reducible apply r_ixL); exact SqL.of upd_same; exact rfl) | ((with_reducible apply r_ixT); exact SqT.of upd_same; exact rfl))
local macro_rules | `(tactic| walk_at "go2") => `(tactic| first | (refine Or.inl ⟨_, rfl, ?_⟩) | (refine ⟨_, rfl, ?_⟩) | (refine ⟨_, _, rfl, ?_⟩) | (refine ⟨_, _, rfl, rfl, ?_⟩))
local macro_rules | `(tactic| walk_at "go") => `(tactic| repeat first | walk_at "go1" | walk_at "go2")
local macro_rules | `(tactic| walk_at "go1") => `(tactic| ((with_reducible apply r_setL); exact upd_same; exact rfl))
local macro_rules | `(tactic| walk_at "go2") => `(tactic| (refine And.intro (by first | omega | (dsimp only; omega) | decide) ?_))
local macro_rules | `(tactic| walk_at "go1") => `(tactic| (with_reducible apply r_sfld))
local macro_rules | `(tactic| walk_at "go2") => `(tactic| (refine And.intro (show CPow _ _ from ⟨by decide, by decide, by decide⟩) ?_))
local macro_rules | `(tactic| walk_at "go2") => `(tactic| (refine And.intro (by assumption) ?_))
local macro_rules | `(tactic| walk_at "go1") => `(tactic| first | (with_reducible apply ite_nt) | (with_reducible apply ite_nf) | (with_reducible apply iteT) | (with_reducible apply iteF))
/-! ### the text by places -/
def top (i : Nat) : Stmt := PySem.Challenge.pw_linkwork_k20_tokens.main.body.getD i (.Pass ⟨0, 0, 0, 0⟩)
abbrev s_BadText___init__ : Stmt := inClass (top 2) 0
abbrev s_is_letter : Stmt := top 4
abbrev s_is_digit : Stmt := top 5
abbrev s_tokens : Stmt := top 12
abbrev s_tokens_until : Stmt := top 13
abbrev s__next_start : Stmt := top 14
abbrev s__end_of_token : Stmt := top 15
abbrev s__end_of_word : Stmt := top 16
abbrev s__end_of_number : Stmt := top 17
abbrev s__end_of_digits : Stmt := top 18
abbrev s__kind : Stmt := top 19
abbrev s__law_stream : Stmt := top 21
abbrev s__law_draw : Stmt := top 22
abbrev s__law_word : Stmt := top 23
abbrev s__law_number : Stmt := top 24
abbrev s__law_keys : Stmt := top 25
abbrev s__law_token : Stmt := top 26
abbrev s__law_touch : Stmt := top 27
abbrev s_law : Stmt := top 28
/-! ### the head's facts -/
def d_BadText___init__ : He.DefD := ⟨(("BadText" : Str), some ("__init__" : Str)), ("__init__" : Str), ("BadText.__init__" : Str), defArgs s_BadText___init__, defBody s_BadText___init__, defScope s_BadText___init__, [], []⟩
def d_is_letter : He.DefD := ⟨(("is_letter" : Str), none), ("is_letter" : Str), ("is_letter" : Str), defArgs s_is_letter, defBody s_is_letter, defScope s_is_letter, [], []⟩
def d_is_digit : He.DefD := ⟨(("is_digit" : Str), none), ("is_digit" : Str), ("is_digit" : Str), defArgs s_is_digit, defBody s_is_digit, defScope s_is_digit, [], []⟩
def d_tokens : He.DefD := ⟨(("tokens" : Str), none), ("tokens" : Str), ("tokens" : Str), defArgs s_tokens, defBody s_tokens, defScope s_tokens, [], []⟩
def d_tokens_until : He.DefD := ⟨(("tokens_until" : Str), none), ("tokens_until" : Str), ("tokens_until" : Str), defArgs s_tokens_until, defBody s_tokens_until, defScope s_tokens_until, [], []⟩
def d__next_start : He.DefD := ⟨(("_next_start" : Str), none), ("_next_start" : Str), ("_next_start" : Str), defArgs s__next_start, defBody s__next_start, defScope s__next_start, [], []⟩
def d__end_of_token : He.DefD := ⟨(("_end_of_token" : Str), none), ("_end_of_token" : Str), ("_end_of_token" : Str), defArgs s__end_of_token, defBody s__end_of_token, defScope s__end_of_token, [], []⟩
def d__end_of_word : He.DefD := ⟨(("_end_of_word" : Str), none), ("_end_of_word" : Str), ("_end_of_word" : Str), defArgs s__end_of_word, defBody s__end_of_word, defScope s__end_of_word, [], []⟩
def d__end_of_number : He.DefD := ⟨(("_end_of_number" : Str), none), ("_end_of_number" : Str), ("_end_of_number" : Str), defArgs s__end_of_number, defBody s__end_of_number, defScope s__end_of_number, [], []⟩
def d__end_of_digits : He.DefD := ⟨(("_end_of_digits" : Str), none), ("_end_of_digits" : Str), ("_end_of_digits" : Str), defArgs s__end_of_digits, defBody s__end_of_digits, defScope s__end_of_digits, [], []⟩
def d__kind : He.DefD := ⟨(("_kind" : Str), none), ("_kind" : Str), ("_kind" : Str), defArgs s__kind, defBody s__kind, defScope s__kind, [], []⟩
def d__law_stream : He.DefD := ⟨(("_law_stream" : Str), none), ("_law_stream" : Str), ("_law_stream" : Str), defArgs s__law_stream, defBody s__law_stream, defScope s__law_stream, [], []⟩
def d__law_draw : He.DefD := ⟨(("_law_draw" : Str), none), ("_law_draw" : Str), ("_law_draw" : Str), defArgs s__law_draw, defBody s__law_draw, defScope s__law_draw, [], []⟩
def d__law_word : He.DefD := ⟨(("_law_word" : Str), none), ("_law_word" : Str), ("_law_word" : Str), defArgs s__law_word, defBody s__law_word, defScope s__law_word, [], []⟩
def d__law_number : He.DefD := ⟨(("_law_number" : Str), none), ("_law_number" : Str), ("_law_number" : Str), defArgs s__law_number, defBody s__law_number, defScope s__law_number, [], []⟩
def d__law_keys : He.DefD := ⟨(("_law_keys" : Str), none), ("_law_keys" : Str), ("_law_keys" : Str), defArgs s__law_keys, defBody s__law_keys, defScope s__law_keys, [], []⟩
def d__law_token : He.DefD := ⟨(("_law_token" : Str), none), ("_law_token" : Str), ("_law_token" : Str), defArgs s__law_token, defBody s__law_token, defScope s__law_token, [], []⟩
def d__law_touch : He.DefD := ⟨(("_law_touch" : Str), none), ("_law_touch" : Str), ("_law_touch" : Str), defArgs s__law_touch, defBody s__law_touch, defScope s__law_touch, [], []⟩
def d_law : He.DefD := ⟨(("law" : Str), none), ("law" : Str), ("law" : Str), defArgs s_law, defBody s_law, defScope s_law, [], []⟩
def fnL : List He.DefD := [d_BadText___init__, d_is_letter, d_is_digit, d_tokens, d_tokens_until, d__next_start, d__end_of_token, d__end_of_word, d__end_of_number, d__end_of_digits, d__kind, d__law_stream, d__law_draw, d__law_word, d__law_number, d__law_keys, d__law_token, d__law_touch, d_law]
def faL : List He.Fa := [.glo ("is_letter" : Str), .glo ("is_digit" : Str), .glo ("tokens" : Str), .glo ("tokens_until" : Str), .glo ("_next_start" : Str), .glo ("_end_of_token" : Str), .glo ("_end_of_word" : Str), .glo ("_end_of_number" : Str), .glo ("_end_of_digits" : Str), .glo ("_kind" : Str), .glo ("_law_stream" : Str), .glo ("_law_draw" : Str), .glo ("_law_word" : Str), .glo ("_law_number" : Str), .glo ("_law_keys" : Str), .glo ("_law_token" : Str), .glo ("_law_touch" : Str), .glo ("law" : Str), .glo ("LinkworkError" : Str), .glo ("BadText" : Str), .free ("abs" : Str), .free ("int" : Str), .free ("isinstance" : Str), .free ("len" : Str), .free ("list" : Str), .free ("range" : Str), .free ("str" : Str), .int ("MOST_LETTERS" : Str) (20), .int ("MOST_DIGITS" : Str) (15), .glo ("KEYWORDS" : Str), .glo ("LONG_SYMBOLS" : Str), .str ("SYMBOLS" : Str) ("()[]{},;.=<>+-*/:" : Str), .exc ("LinkworkError" : Str)]
def ex_lw_LinkworkError (K : PySem.W.Frag) : Bool := lwB K (He.ga K ("LinkworkError" : Str))
def ex_excC_LinkworkError (K : PySem.W.Frag) : Bool := excCB K (He.ga K ("LinkworkError" : Str))
def ex_excC_BadText (K : PySem.W.Frag) : Bool := excCB K (He.ga K ("BadText" : Str))
def ex_oex_BadText (K : PySem.W.Frag) : Bool := oexB K (He.ga K ("BadText" : Str)) (He.ma K (He.ga K ("BadText" : Str)) "__init__")
def ex_xf_BadText_at (K : PySem.W.Frag) : Bool := He.eqO (PySem.W.findIn K (.ref (He.ga K ("BadText" : Str))) ("at" : Str)) (some none)
def ex_xfr_BadText (K : PySem.W.Frag) : Bool := xfB K (He.ga K ("BadText" : Str))
def ex_t_KEYWORDS (K : PySem.W.Frag) : Bool := tupStrs K (He.ga K ("KEYWORDS" : Str)) [("and" : Str), ("connect" : Str), ("connector" : Str), ("der" : Str), ("discrete" : Str), ("else" : Str), ("end" : Str), ("equation" : Str), ("extends" : Str), ("false" : Str), ("flow" : Str), ("for" : Str), ("if" : Str), ("in" : Str), ("initial" : Str), ("input" : Str), ("loop" : Str), ("model" : Str), ("not" : Str), ("or" : Str), ("parameter" : Str), ("pre" : Str), ("reset" : Str), ("sample" : Str), ("size" : Str), ("sum" : Str), ("then" : Str), ("time" : Str), ("true" : Str), ("when" : Str)]
def ex_t_LONG_SYMBOLS (K : PySem.W.Frag) : Bool := tupStrs K (He.ga K ("LONG_SYMBOLS" : Str)) [("==" : Str), ("<=" : Str), (">=" : Str), ("<>" : Str)]
def ex_kit_t_list_t_list (K : PySem.W.Frag) : Bool := decide (PySem.W.kitOne K (.type "list") (.type "list") = some true)
def exL : List (PySem.W.Frag → Bool) := [ex_lw_LinkworkError, ex_excC_LinkworkError, ex_excC_BadText, ex_oex_BadText, ex_xf_BadText_at, ex_xfr_BadText, ex_t_KEYWORDS, ex_t_LONG_SYMBOLS, ex_kit_t_list_t_list]
def exB (K : PySem.W.Frag) : Bool := exL.all fun f => f K
abbrev R : PySem.W.OpenRow := PySem.W.OpenLaw.row PySem.Challenge.rw_linkwork_k20_tokens
abbrev hk : PySem.W.Hook := hookS 5 faL fnL exB
def ob (s : PySem.W.SharedT) : AlS := obsS 5 faL fnL exB (HeadRun.getT s)
theorem ob_eq (s : PySem.W.SharedT) : ob s = hk.obs s.abs := obsS_eq (HeadRun.getT_eq s)
def looseL : List PySem.Str := [("__name__" : Str), ("LinkworkError" : Str), ("BadText" : Str), ("is_letter" : Str), ("is_digit" : Str), ("MOST_LETTERS" : Str), ("MOST_DIGITS" : Str), ("KEYWORDS" : Str), ("LONG_SYMBOLS" : Str), ("SYMBOLS" : Str), ("tokens" : Str), ("tokens_until" : Str), ("_next_start" : Str), ("_end_of_token" : Str), ("_end_of_word" : Str), ("_end_of_number" : Str), ("_end_of_digits" : Str), ("_kind" : Str), ("_law_stream" : Str), ("_law_draw" : Str), ("_law_word" : Str), ("_law_number" : Str), ("_law_keys" : Str), ("_law_token" : Str), ("_law_touch" : Str)]
abbrev qv : Program := PySem.W.view R.prog [28]
theorem run (w : World) : HeadRun.RunEq R qv hk ob 4000 looseL w := by
  intro os
  kernel_rfl
/-! ### the facts by names -/
def Top (w : World) (K : PySem.W.Frag) (mg : Str → Option Value) : Prop := ∃ h : Heap, K.In h ∧ h.Ns mainGlobals mg ∧ SaysS faL fnL exB K
noncomputable def fdOf (K : PySem.W.Frag) (d : He.DefD) : FuncData := @Classical.epsilon FuncData ⟨PySem.W.fnOf d.name d.qual d.params d.body d.scope .none .none .none .none none .none .none⟩ fun fd => FunD K d.name d.qual d.params d.body d.scope (d.dvs K) (d.kws K) (He.fAd K d.at_) fd
section
variable {w : World} {K : PySem.W.Frag} {mg : Str → Option Value}
theorem Top.fun_ (T : Top w K mg) (i : Nat) {d : He.DefD} (h : fnL[i]? = some d) : FunD K d.name d.qual d.params d.body d.scope (d.dvs K) (d.kws K) (He.fAd K d.at_) (fdOf K d) := by
  obtain ⟨_, _, _, c⟩ := T
  exact Classical.epsilon_spec (c.d.def_ i h)
theorem Top.fact (T : Top w K mg) (i : Nat) {f : He.Fa} (h : faL[i]? = some f) : f.ok K = true := by
  obtain ⟨_, _, _, c⟩ := T
  exact c.d.fact i h
theorem Top.ex (T : Top w K mg) (i : Nat) {f : PySem.W.Frag → Bool} (h : exL[i]? = some f) : f K = true := by
  obtain ⟨_, _, _, c⟩ := T
  exact List.all_eq_true.mp (show (exL.all fun f => f K) = true from c.more) f (List.mem_of_getElem? h)
theorem Top.g_is_letter (T : Top w K mg) : mg ("is_letter" : Str) = some (.ref (He.ga K ("is_letter" : Str))) := by obtain ⟨h, X, G, c⟩ := T; exact He.glo_ok X G (c.d.fact 0 rfl)
theorem Top.g_is_digit (T : Top w K mg) : mg ("is_digit" : Str) = some (.ref (He.ga K ("is_digit" : Str))) := by obtain ⟨h, X, G, c⟩ := T; exact He.glo_ok X G (c.d.fact 1 rfl)
theorem Top.g_tokens (T : Top w K mg) : mg ("tokens" : Str) = some (.ref (He.ga K ("tokens" : Str))) := by obtain ⟨h, X, G, c⟩ := T; exact He.glo_ok X G (c.d.fact 2 rfl)
theorem Top.g_tokens_until (T : Top w K mg) : mg ("tokens_until" : Str) = some (.ref (He.ga K ("tokens_until" : Str))) := by obtain ⟨h, X, G, c⟩ := T; exact He.glo_ok X G (c.d.fact 3 rfl)
theorem Top.g__next_start (T : Top w K mg) : mg ("_next_start" : Str) = some (.ref (He.ga K ("_next_start" : Str))) := by obtain ⟨h, X, G, c⟩ := T; exact He.glo_ok X G (c.d.fact 4 rfl)
theorem Top.g__end_of_token (T : Top w K mg) : mg ("_end_of_token" : Str) = some (.ref (He.ga K ("_end_of_token" : Str))) := by obtain ⟨h, X, G, c⟩ := T; exact He.glo_ok X G (c.d.fact 5 rfl)
theorem Top.g__end_of_word (T : Top w K mg) : mg ("_end_of_word" : Str) = some (.ref (He.ga K ("_end_of_word" : Str))) := by obtain ⟨h, X, G, c⟩ := T; exact He.glo_ok X G (c.d.fact 6 rfl)
theorem Top.g__end_of_number (T : Top w K mg) : mg ("_end_of_number" : Str) = some (.ref (He.ga K ("_end_of_number" : Str))) := by obtain ⟨h, X, G, c⟩ := T; exact He.glo_ok X G (c.d.fact 7 rfl)
theorem Top.g__end_of_digits (T : Top w K mg) : mg ("_end_of_digits" : Str) = some (.ref (He.ga K ("_end_of_digits" : Str))) := by obtain ⟨h, X, G, c⟩ := T; exact He.glo_ok X G (c.d.fact 8 rfl)
theorem Top.g__kind (T : Top w K mg) : mg ("_kind" : Str) = some (.ref (He.ga K ("_kind" : Str))) := by obtain ⟨h, X, G, c⟩ := T; exact He.glo_ok X G (c.d.fact 9 rfl)
theorem Top.g__law_stream (T : Top w K mg) : mg ("_law_stream" : Str) = some (.ref (He.ga K ("_law_stream" : Str))) := by obtain ⟨h, X, G, c⟩ := T; exact He.glo_ok X G (c.d.fact 10 rfl)
theorem Top.g__law_draw (T : Top w K mg) : mg ("_law_draw" : Str) = some (.ref (He.ga K ("_law_draw" : Str))) := by obtain ⟨h, X, G, c⟩ := T; exact He.glo_ok X G (c.d.fact 11 rfl)
theorem Top.g__law_word (T : Top w K mg) : mg ("_law_word" : Str) = some (.ref (He.ga K ("_law_word" : Str))) := by obtain ⟨h, X, G, c⟩ := T; exact He.glo_ok X G (c.d.fact 12 rfl)
theorem Top.g__law_number (T : Top w K mg) : mg ("_law_number" : Str) = some (.ref (He.ga K ("_law_number" : Str))) := by obtain ⟨h, X, G, c⟩ := T; exact He.glo_ok X G (c.d.fact 13 rfl)
theorem Top.g__law_keys (T : Top w K mg) : mg ("_law_keys" : Str) = some (.ref (He.ga K ("_law_keys" : Str))) := by obtain ⟨h, X, G, c⟩ := T; exact He.glo_ok X G (c.d.fact 14 rfl)
theorem Top.g__law_token (T : Top w K mg) : mg ("_law_token" : Str) = some (.ref (He.ga K ("_law_token" : Str))) := by obtain ⟨h, X, G, c⟩ := T; exact He.glo_ok X G (c.d.fact 15 rfl)
theorem Top.g__law_touch (T : Top w K mg) : mg ("_law_touch" : Str) = some (.ref (He.ga K ("_law_touch" : Str))) := by obtain ⟨h, X, G, c⟩ := T; exact He.glo_ok X G (c.d.fact 16 rfl)
theorem Top.g_law (T : Top w K mg) : mg ("law" : Str) = some (.ref (He.ga K ("law" : Str))) := by obtain ⟨h, X, G, c⟩ := T; exact He.glo_ok X G (c.d.fact 17 rfl)
theorem Top.g_LinkworkError (T : Top w K mg) : mg ("LinkworkError" : Str) = some (.ref (He.ga K ("LinkworkError" : Str))) := by obtain ⟨h, X, G, c⟩ := T; exact He.glo_ok X G (c.d.fact 18 rfl)
theorem Top.g_BadText (T : Top w K mg) : mg ("BadText" : Str) = some (.ref (He.ga K ("BadText" : Str))) := by obtain ⟨h, X, G, c⟩ := T; exact He.glo_ok X G (c.d.fact 19 rfl)
theorem Top.n_abs (T : Top w K mg) : mg ("abs" : Str) = none := by obtain ⟨h, X, G, c⟩ := T; exact He.free_ok X G (c.d.fact 20 rfl)
theorem Top.n_int (T : Top w K mg) : mg ("int" : Str) = none := by obtain ⟨h, X, G, c⟩ := T; exact He.free_ok X G (c.d.fact 21 rfl)
theorem Top.n_isinstance (T : Top w K mg) : mg ("isinstance" : Str) = none := by obtain ⟨h, X, G, c⟩ := T; exact He.free_ok X G (c.d.fact 22 rfl)
theorem Top.n_len (T : Top w K mg) : mg ("len" : Str) = none := by obtain ⟨h, X, G, c⟩ := T; exact He.free_ok X G (c.d.fact 23 rfl)
theorem Top.n_list (T : Top w K mg) : mg ("list" : Str) = none := by obtain ⟨h, X, G, c⟩ := T; exact He.free_ok X G (c.d.fact 24 rfl)
theorem Top.n_range (T : Top w K mg) : mg ("range" : Str) = none := by obtain ⟨h, X, G, c⟩ := T; exact He.free_ok X G (c.d.fact 25 rfl)
theorem Top.n_str (T : Top w K mg) : mg ("str" : Str) = none := by obtain ⟨h, X, G, c⟩ := T; exact He.free_ok X G (c.d.fact 26 rfl)
theorem Top.i_MOST_LETTERS (T : Top w K mg) : ∃ u, mg ("MOST_LETTERS" : Str) = some u ∧ RelV (.int (20)) u := by obtain ⟨h, X, G, c⟩ := T; obtain ⟨t, e⟩ := He.int_ok X G (c.d.fact 27 rfl); exact ⟨_, e, t, rfl⟩
theorem Top.i_MOST_DIGITS (T : Top w K mg) : ∃ u, mg ("MOST_DIGITS" : Str) = some u ∧ RelV (.int (15)) u := by obtain ⟨h, X, G, c⟩ := T; obtain ⟨t, e⟩ := He.int_ok X G (c.d.fact 28 rfl); exact ⟨_, e, t, rfl⟩
theorem Top.g_KEYWORDS (T : Top w K mg) : mg ("KEYWORDS" : Str) = some (.ref (He.ga K ("KEYWORDS" : Str))) := by obtain ⟨h, X, G, c⟩ := T; exact He.glo_ok X G (c.d.fact 29 rfl)
theorem Top.g_LONG_SYMBOLS (T : Top w K mg) : mg ("LONG_SYMBOLS" : Str) = some (.ref (He.ga K ("LONG_SYMBOLS" : Str))) := by obtain ⟨h, X, G, c⟩ := T; exact He.glo_ok X G (c.d.fact 30 rfl)
theorem Top.s_SYMBOLS (T : Top w K mg) : ∃ u, mg ("SYMBOLS" : Str) = some u ∧ RelV (.str ("()[]{},;.=<>+-*/:" : Str)) u := by obtain ⟨h, X, G, c⟩ := T; obtain ⟨t, e⟩ := He.str_ok X G (c.d.fact 31 rfl); exact ⟨_, e, t, rfl⟩
theorem Top.exc_LinkworkError (T : Top w K mg) : PySem.W.excIn K (He.ga K ("LinkworkError" : Str)) He.veBase "ValueError.__new__" = true ∧ PySem.W.keepIn K (.ref (He.ga K ("LinkworkError" : Str))) = true ∧ PySem.W.subIn K (.ref (He.ga K ("LinkworkError" : Str))) (.type "BaseException") = some true ∧ PySem.W.typeIn K (.ref (He.ga K ("LinkworkError" : Str))) = some (.type "type") := He.exc_ok (T.fact 32 rfl)
theorem Top.k_KEYWORDS (T : Top w K mg) : ∃ u, mg ("KEYWORDS" : Str) = some u ∧ RelV (.ref (He.ga K ("KEYWORDS" : Str))) u := ⟨_, T.g_KEYWORDS, rfl⟩
theorem Top.k_LONG_SYMBOLS (T : Top w K mg) : ∃ u, mg ("LONG_SYMBOLS" : Str) = some u ∧ RelV (.ref (He.ga K ("LONG_SYMBOLS" : Str))) u := ⟨_, T.g_LONG_SYMBOLS, rfl⟩
theorem Top.x_lw_LinkworkError (T : Top w K mg) : ex_lw_LinkworkError K = true := T.ex 0 rfl
theorem Top.x_excC_LinkworkError (T : Top w K mg) : ex_excC_LinkworkError K = true := T.ex 1 rfl
theorem Top.x_excC_BadText (T : Top w K mg) : ex_excC_BadText K = true := T.ex 2 rfl
theorem Top.x_oex_BadText (T : Top w K mg) : ex_oex_BadText K = true := T.ex 3 rfl
theorem Top.x_xf_BadText_at (T : Top w K mg) : ex_xf_BadText_at K = true := T.ex 4 rfl
theorem Top.x_xfr_BadText (T : Top w K mg) : ex_xfr_BadText K = true := T.ex 5 rfl
theorem Top.x_t_KEYWORDS (T : Top w K mg) : ex_t_KEYWORDS K = true := T.ex 6 rfl
theorem Top.x_t_LONG_SYMBOLS (T : Top w K mg) : ex_t_LONG_SYMBOLS K = true := T.ex 7 rfl
theorem Top.x_kit_t_list_t_list (T : Top w K mg) : ex_kit_t_list_t_list K = true := T.ex 8 rfl
theorem Top.f_BadText___init__ (T : Top w K mg) : FunD K ("__init__" : Str) ("BadText.__init__" : Str) (defArgs s_BadText___init__) (defBody s_BadText___init__) (defScope s_BadText___init__) (d_BadText___init__.dvs K) (d_BadText___init__.kws K) (He.ma K (He.ga K ("BadText" : Str)) ("__init__" : Str)) (fdOf K d_BadText___init__) := T.fun_ 0 rfl
theorem Top.b_BadText___init__ (T : Top w K mg) : Binds K (fdOf K d_BadText___init__) ["self", "at"] [] := (show FunD K ("__init__" : Str) ("BadText.__init__" : Str) (defArgs s_BadText___init__) (defBody s_BadText___init__) (defScope s_BadText___init__) [] (d_BadText___init__.kws K) (He.ma K (He.ga K ("BadText" : Str)) ("__init__" : Str)) (fdOf K d_BadText___init__) from T.f_BadText___init__).bindsN fun _ _ _ _ _ _ us hl => match us, hl with | [_, _], _ => rfl
theorem sc_BadText___init__ : FnScope ["self", "at"] ["self", "at"] (defScope s_BadText___init__) := ⟨rfl, rfl, rfl, by decide +kernel, rfl, by decide +kernel, by decide +kernel⟩
theorem Top.f_is_letter (T : Top w K mg) : FunD K ("is_letter" : Str) ("is_letter" : Str) (defArgs s_is_letter) (defBody s_is_letter) (defScope s_is_letter) (d_is_letter.dvs K) (d_is_letter.kws K) (He.ga K ("is_letter" : Str)) (fdOf K d_is_letter) := T.fun_ 1 rfl
theorem Top.b_is_letter (T : Top w K mg) : Binds K (fdOf K d_is_letter) ["character"] [] := (show FunD K ("is_letter" : Str) ("is_letter" : Str) (defArgs s_is_letter) (defBody s_is_letter) (defScope s_is_letter) [] (d_is_letter.kws K) (He.ga K ("is_letter" : Str)) (fdOf K d_is_letter) from T.f_is_letter).bindsN fun _ _ _ _ _ _ us hl => match us, hl with | [_], _ => rfl
theorem sc_is_letter : FnScope ["character"] ["character"] (defScope s_is_letter) := ⟨rfl, rfl, rfl, by decide +kernel, rfl, by decide +kernel, by decide +kernel⟩
theorem Top.f_is_digit (T : Top w K mg) : FunD K ("is_digit" : Str) ("is_digit" : Str) (defArgs s_is_digit) (defBody s_is_digit) (defScope s_is_digit) (d_is_digit.dvs K) (d_is_digit.kws K) (He.ga K ("is_digit" : Str)) (fdOf K d_is_digit) := T.fun_ 2 rfl
theorem Top.b_is_digit (T : Top w K mg) : Binds K (fdOf K d_is_digit) ["character"] [] := (show FunD K ("is_digit" : Str) ("is_digit" : Str) (defArgs s_is_digit) (defBody s_is_digit) (defScope s_is_digit) [] (d_is_digit.kws K) (He.ga K ("is_digit" : Str)) (fdOf K d_is_digit) from T.f_is_digit).bindsN fun _ _ _ _ _ _ us hl => match us, hl with | [_], _ => rfl
theorem sc_is_digit : FnScope ["character"] ["character"] (defScope s_is_digit) := ⟨rfl, rfl, rfl, by decide +kernel, rfl, by decide +kernel, by decide +kernel⟩
theorem Top.f_tokens (T : Top w K mg) : FunD K ("tokens" : Str) ("tokens" : Str) (defArgs s_tokens) (defBody s_tokens) (defScope s_tokens) (d_tokens.dvs K) (d_tokens.kws K) (He.ga K ("tokens" : Str)) (fdOf K d_tokens) := T.fun_ 3 rfl
theorem Top.b_tokens (T : Top w K mg) : Binds K (fdOf K d_tokens) ["source"] [] := (show FunD K ("tokens" : Str) ("tokens" : Str) (defArgs s_tokens) (defBody s_tokens) (defScope s_tokens) [] (d_tokens.kws K) (He.ga K ("tokens" : Str)) (fdOf K d_tokens) from T.f_tokens).bindsN fun _ _ _ _ _ _ us hl => match us, hl with | [_], _ => rfl
theorem sc_tokens : FnScope ["source", "found", "stop"] ["source"] (defScope s_tokens) := ⟨rfl, rfl, rfl, by decide +kernel, rfl, by decide +kernel, by decide +kernel⟩
theorem Top.f_tokens_until (T : Top w K mg) : FunD K ("tokens_until" : Str) ("tokens_until" : Str) (defArgs s_tokens_until) (defBody s_tokens_until) (defScope s_tokens_until) (d_tokens_until.dvs K) (d_tokens_until.kws K) (He.ga K ("tokens_until" : Str)) (fdOf K d_tokens_until) := T.fun_ 4 rfl
theorem Top.b_tokens_until (T : Top w K mg) : Binds K (fdOf K d_tokens_until) ["source"] [] := (show FunD K ("tokens_until" : Str) ("tokens_until" : Str) (defArgs s_tokens_until) (defBody s_tokens_until) (defScope s_tokens_until) [] (d_tokens_until.kws K) (He.ga K ("tokens_until" : Str)) (fdOf K d_tokens_until) from T.f_tokens_until).bindsN fun _ _ _ _ _ _ us hl => match us, hl with | [_], _ => rfl
theorem sc_tokens_until : FnScope ["source", "found", "at", "end", "text"] ["source"] (defScope s_tokens_until) := ⟨rfl, rfl, rfl, by decide +kernel, rfl, by decide +kernel, by decide +kernel⟩
theorem Top.f__next_start (T : Top w K mg) : FunD K ("_next_start" : Str) ("_next_start" : Str) (defArgs s__next_start) (defBody s__next_start) (defScope s__next_start) (d__next_start.dvs K) (d__next_start.kws K) (He.ga K ("_next_start" : Str)) (fdOf K d__next_start) := T.fun_ 5 rfl
theorem Top.b__next_start (T : Top w K mg) : Binds K (fdOf K d__next_start) ["source", "at"] [] := (show FunD K ("_next_start" : Str) ("_next_start" : Str) (defArgs s__next_start) (defBody s__next_start) (defScope s__next_start) [] (d__next_start.kws K) (He.ga K ("_next_start" : Str)) (fdOf K d__next_start) from T.f__next_start).bindsN fun _ _ _ _ _ _ us hl => match us, hl with | [_, _], _ => rfl
theorem sc__next_start : FnScope ["source", "at", "end"] ["source", "at"] (defScope s__next_start) := ⟨rfl, rfl, rfl, by decide +kernel, rfl, by decide +kernel, by decide +kernel⟩
theorem Top.f__end_of_token (T : Top w K mg) : FunD K ("_end_of_token" : Str) ("_end_of_token" : Str) (defArgs s__end_of_token) (defBody s__end_of_token) (defScope s__end_of_token) (d__end_of_token.dvs K) (d__end_of_token.kws K) (He.ga K ("_end_of_token" : Str)) (fdOf K d__end_of_token) := T.fun_ 6 rfl
theorem Top.b__end_of_token (T : Top w K mg) : Binds K (fdOf K d__end_of_token) ["source", "at"] [] := (show FunD K ("_end_of_token" : Str) ("_end_of_token" : Str) (defArgs s__end_of_token) (defBody s__end_of_token) (defScope s__end_of_token) [] (d__end_of_token.kws K) (He.ga K ("_end_of_token" : Str)) (fdOf K d__end_of_token) from T.f__end_of_token).bindsN fun _ _ _ _ _ _ us hl => match us, hl with | [_, _], _ => rfl
theorem sc__end_of_token : FnScope ["source", "at", "end"] ["source", "at"] (defScope s__end_of_token) := ⟨rfl, rfl, rfl, by decide +kernel, rfl, by decide +kernel, by decide +kernel⟩
theorem Top.f__end_of_word (T : Top w K mg) : FunD K ("_end_of_word" : Str) ("_end_of_word" : Str) (defArgs s__end_of_word) (defBody s__end_of_word) (defScope s__end_of_word) (d__end_of_word.dvs K) (d__end_of_word.kws K) (He.ga K ("_end_of_word" : Str)) (fdOf K d__end_of_word) := T.fun_ 7 rfl
theorem Top.b__end_of_word (T : Top w K mg) : Binds K (fdOf K d__end_of_word) ["source", "at"] [] := (show FunD K ("_end_of_word" : Str) ("_end_of_word" : Str) (defArgs s__end_of_word) (defBody s__end_of_word) (defScope s__end_of_word) [] (d__end_of_word.kws K) (He.ga K ("_end_of_word" : Str)) (fdOf K d__end_of_word) from T.f__end_of_word).bindsN fun _ _ _ _ _ _ us hl => match us, hl with | [_, _], _ => rfl
theorem sc__end_of_word : FnScope ["source", "at", "end"] ["source", "at"] (defScope s__end_of_word) := ⟨rfl, rfl, rfl, by decide +kernel, rfl, by decide +kernel, by decide +kernel⟩
theorem Top.f__end_of_number (T : Top w K mg) : FunD K ("_end_of_number" : Str) ("_end_of_number" : Str) (defArgs s__end_of_number) (defBody s__end_of_number) (defScope s__end_of_number) (d__end_of_number.dvs K) (d__end_of_number.kws K) (He.ga K ("_end_of_number" : Str)) (fdOf K d__end_of_number) := T.fun_ 8 rfl
theorem Top.b__end_of_number (T : Top w K mg) : Binds K (fdOf K d__end_of_number) ["source", "at"] [] := (show FunD K ("_end_of_number" : Str) ("_end_of_number" : Str) (defArgs s__end_of_number) (defBody s__end_of_number) (defScope s__end_of_number) [] (d__end_of_number.kws K) (He.ga K ("_end_of_number" : Str)) (fdOf K d__end_of_number) from T.f__end_of_number).bindsN fun _ _ _ _ _ _ us hl => match us, hl with | [_, _], _ => rfl
theorem sc__end_of_number : FnScope ["source", "at", "point", "end"] ["source", "at"] (defScope s__end_of_number) := ⟨rfl, rfl, rfl, by decide +kernel, rfl, by decide +kernel, by decide +kernel⟩
theorem Top.f__end_of_digits (T : Top w K mg) : FunD K ("_end_of_digits" : Str) ("_end_of_digits" : Str) (defArgs s__end_of_digits) (defBody s__end_of_digits) (defScope s__end_of_digits) (d__end_of_digits.dvs K) (d__end_of_digits.kws K) (He.ga K ("_end_of_digits" : Str)) (fdOf K d__end_of_digits) := T.fun_ 9 rfl
theorem Top.b__end_of_digits (T : Top w K mg) : Binds K (fdOf K d__end_of_digits) ["source", "at"] [] := (show FunD K ("_end_of_digits" : Str) ("_end_of_digits" : Str) (defArgs s__end_of_digits) (defBody s__end_of_digits) (defScope s__end_of_digits) [] (d__end_of_digits.kws K) (He.ga K ("_end_of_digits" : Str)) (fdOf K d__end_of_digits) from T.f__end_of_digits).bindsN fun _ _ _ _ _ _ us hl => match us, hl with | [_, _], _ => rfl
theorem sc__end_of_digits : FnScope ["source", "at", "end"] ["source", "at"] (defScope s__end_of_digits) := ⟨rfl, rfl, rfl, by decide +kernel, rfl, by decide +kernel, by decide +kernel⟩
theorem Top.f__kind (T : Top w K mg) : FunD K ("_kind" : Str) ("_kind" : Str) (defArgs s__kind) (defBody s__kind) (defScope s__kind) (d__kind.dvs K) (d__kind.kws K) (He.ga K ("_kind" : Str)) (fdOf K d__kind) := T.fun_ 10 rfl
theorem Top.b__kind (T : Top w K mg) : Binds K (fdOf K d__kind) ["text"] [] := (show FunD K ("_kind" : Str) ("_kind" : Str) (defArgs s__kind) (defBody s__kind) (defScope s__kind) [] (d__kind.kws K) (He.ga K ("_kind" : Str)) (fdOf K d__kind) from T.f__kind).bindsN fun _ _ _ _ _ _ us hl => match us, hl with | [_], _ => rfl
theorem sc__kind : FnScope ["text"] ["text"] (defScope s__kind) := ⟨rfl, rfl, rfl, by decide +kernel, rfl, by decide +kernel, by decide +kernel⟩
theorem Top.f__law_stream (T : Top w K mg) : FunD K ("_law_stream" : Str) ("_law_stream" : Str) (defArgs s__law_stream) (defBody s__law_stream) (defScope s__law_stream) (d__law_stream.dvs K) (d__law_stream.kws K) (He.ga K ("_law_stream" : Str)) (fdOf K d__law_stream) := T.fun_ 11 rfl
theorem Top.b__law_stream (T : Top w K mg) : Binds K (fdOf K d__law_stream) ["script"] [] := (show FunD K ("_law_stream" : Str) ("_law_stream" : Str) (defArgs s__law_stream) (defBody s__law_stream) (defScope s__law_stream) [] (d__law_stream.kws K) (He.ga K ("_law_stream" : Str)) (fdOf K d__law_stream) from T.f__law_stream).bindsN fun _ _ _ _ _ _ us hl => match us, hl with | [_], _ => rfl
theorem sc__law_stream : FnScope ["script", "mixed", "cell"] ["script"] (defScope s__law_stream) := ⟨rfl, rfl, rfl, by decide +kernel, rfl, by decide +kernel, by decide +kernel⟩
theorem Top.f__law_draw (T : Top w K mg) : FunD K ("_law_draw" : Str) ("_law_draw" : Str) (defArgs s__law_draw) (defBody s__law_draw) (defScope s__law_draw) (d__law_draw.dvs K) (d__law_draw.kws K) (He.ga K ("_law_draw" : Str)) (fdOf K d__law_draw) := T.fun_ 12 rfl
theorem Top.b__law_draw (T : Top w K mg) : Binds K (fdOf K d__law_draw) ["stream", "many"] [] := (show FunD K ("_law_draw" : Str) ("_law_draw" : Str) (defArgs s__law_draw) (defBody s__law_draw) (defScope s__law_draw) [] (d__law_draw.kws K) (He.ga K ("_law_draw" : Str)) (fdOf K d__law_draw) from T.f__law_draw).bindsN fun _ _ _ _ _ _ us hl => match us, hl with | [_, _], _ => rfl
theorem sc__law_draw : FnScope ["stream", "many", "value"] ["stream", "many"] (defScope s__law_draw) := ⟨rfl, rfl, rfl, by decide +kernel, rfl, by decide +kernel, by decide +kernel⟩
theorem Top.f__law_word (T : Top w K mg) : FunD K ("_law_word" : Str) ("_law_word" : Str) (defArgs s__law_word) (defBody s__law_word) (defScope s__law_word) (d__law_word.dvs K) (d__law_word.kws K) (He.ga K ("_law_word" : Str)) (fdOf K d__law_word) := T.fun_ 13 rfl
theorem Top.b__law_word (T : Top w K mg) : Binds K (fdOf K d__law_word) ["stream"] [] := (show FunD K ("_law_word" : Str) ("_law_word" : Str) (defArgs s__law_word) (defBody s__law_word) (defScope s__law_word) [] (d__law_word.kws K) (He.ga K ("_law_word" : Str)) (fdOf K d__law_word) from T.f__law_word).bindsN fun _ _ _ _ _ _ us hl => match us, hl with | [_], _ => rfl
theorem sc__law_word : FnScope ["stream", "letters", "word", "k"] ["stream"] (defScope s__law_word) := ⟨rfl, rfl, rfl, by decide +kernel, rfl, by decide +kernel, by decide +kernel⟩
theorem Top.f__law_number (T : Top w K mg) : FunD K ("_law_number" : Str) ("_law_number" : Str) (defArgs s__law_number) (defBody s__law_number) (defScope s__law_number) (d__law_number.dvs K) (d__law_number.kws K) (He.ga K ("_law_number" : Str)) (fdOf K d__law_number) := T.fun_ 14 rfl
theorem Top.b__law_number (T : Top w K mg) : Binds K (fdOf K d__law_number) ["stream"] [] := (show FunD K ("_law_number" : Str) ("_law_number" : Str) (defArgs s__law_number) (defBody s__law_number) (defScope s__law_number) [] (d__law_number.kws K) (He.ga K ("_law_number" : Str)) (fdOf K d__law_number) from T.f__law_number).bindsN fun _ _ _ _ _ _ us hl => match us, hl with | [_], _ => rfl
theorem sc__law_number : FnScope ["stream", "text", "k"] ["stream"] (defScope s__law_number) := ⟨rfl, rfl, rfl, by decide +kernel, rfl, by decide +kernel, by decide +kernel⟩
theorem Top.f__law_keys (T : Top w K mg) : FunD K ("_law_keys" : Str) ("_law_keys" : Str) (defArgs s__law_keys) (defBody s__law_keys) (defScope s__law_keys) (d__law_keys.dvs K) (d__law_keys.kws K) (He.ga K ("_law_keys" : Str)) (fdOf K d__law_keys) := T.fun_ 15 rfl
theorem Top.b__law_keys (T : Top w K mg) : Binds K (fdOf K d__law_keys) [] [] := (show FunD K ("_law_keys" : Str) ("_law_keys" : Str) (defArgs s__law_keys) (defBody s__law_keys) (defScope s__law_keys) [] (d__law_keys.kws K) (He.ga K ("_law_keys" : Str)) (fdOf K d__law_keys) from T.f__law_keys).bindsN fun _ _ _ _ _ _ us hl => match us, hl with | [], _ => rfl
theorem sc__law_keys : FnScope ["words"] [] (defScope s__law_keys) := ⟨rfl, rfl, rfl, by decide +kernel, rfl, by decide +kernel, by decide +kernel⟩
theorem Top.f__law_token (T : Top w K mg) : FunD K ("_law_token" : Str) ("_law_token" : Str) (defArgs s__law_token) (defBody s__law_token) (defScope s__law_token) (d__law_token.dvs K) (d__law_token.kws K) (He.ga K ("_law_token" : Str)) (fdOf K d__law_token) := T.fun_ 16 rfl
theorem Top.b__law_token (T : Top w K mg) : Binds K (fdOf K d__law_token) ["stream"] [] := (show FunD K ("_law_token" : Str) ("_law_token" : Str) (defArgs s__law_token) (defBody s__law_token) (defScope s__law_token) [] (d__law_token.kws K) (He.ga K ("_law_token" : Str)) (fdOf K d__law_token) from T.f__law_token).bindsN fun _ _ _ _ _ _ us hl => match us, hl with | [_], _ => rfl
theorem sc__law_token : FnScope ["stream", "keys", "pick", "word", "signs"] ["stream"] (defScope s__law_token) := ⟨rfl, rfl, rfl, by decide +kernel, rfl, by decide +kernel, by decide +kernel⟩
theorem Top.f__law_touch (T : Top w K mg) : FunD K ("_law_touch" : Str) ("_law_touch" : Str) (defArgs s__law_touch) (defBody s__law_touch) (defScope s__law_touch) (d__law_touch.dvs K) (d__law_touch.kws K) (He.ga K ("_law_touch" : Str)) (fdOf K d__law_touch) := T.fun_ 17 rfl
theorem Top.b__law_touch (T : Top w K mg) : Binds K (fdOf K d__law_touch) ["one", "two"] [] := (show FunD K ("_law_touch" : Str) ("_law_touch" : Str) (defArgs s__law_touch) (defBody s__law_touch) (defScope s__law_touch) [] (d__law_touch.kws K) (He.ga K ("_law_touch" : Str)) (fdOf K d__law_touch) from T.f__law_touch).bindsN fun _ _ _ _ _ _ us hl => match us, hl with | [_, _], _ => rfl
theorem sc__law_touch : FnScope ["one", "two"] ["one", "two"] (defScope s__law_touch) := ⟨rfl, rfl, rfl, by decide +kernel, rfl, by decide +kernel, by decide +kernel⟩
theorem Top.f_law (T : Top w K mg) : FunD K ("law" : Str) ("law" : Str) (defArgs s_law) (defBody s_law) (defScope s_law) (d_law.dvs K) (d_law.kws K) (He.ga K ("law" : Str)) (fdOf K d_law) := T.fun_ 18 rfl
theorem Top.b_law (T : Top w K mg) : Binds K (fdOf K d_law) ["script"] [] := (show FunD K ("law" : Str) ("law" : Str) (defArgs s_law) (defBody s_law) (defScope s_law) [] (d_law.kws K) (He.ga K ("law" : Str)) (fdOf K d_law) from T.f_law).bindsN fun _ _ _ _ _ _ us hl => match us, hl with | [_], _ => rfl
theorem sc_law : FnScope ["script", "stream", "text", "due", "k", "token", "gap", "actual"] ["script"] (defScope s_law) := ⟨rfl, rfl, rfl, by decide +kernel, rfl, by decide +kernel, by decide +kernel⟩
end
section
variable {P : Program} {w : World} {K : PySem.W.Frag} {mg : Str → Option Value} {base : Heap}
/-! ### BadText(at) -/
def okIx : V → Prop := fun v => ∃ i : Int, v = .int i ∧ i.natAbs.log2 < 1920
theorem ok_BadText___init__ (T : Top w K mg) : FnOk P w K mg base CX0 1 (He.ma K (He.ga K ("BadText" : Str)) ("__init__" : Str)) (fdOf K d_BadText___init__) ["self", "at"] (spExc K (He.ga K "BadText") "at" okIx) := by
  refine (T.f_BadText___init__).ok sc_BadText___init__ (fun vs H Q E h => ?_) (fun cdv A outer s H vs Q E hr h => ?_)
  · obtain ⟨a, v, rfl, _⟩ := h
    rfl
  · obtain ⟨a, v, rfl, ha, ⟨i, rfl, hi⟩, k⟩ := h
    refine ⟨_, PSs.nox (pss_cons (ps_expr (pe_lwinit T.x_lw_LinkworkError rfl T.g_LinkworkError (pa_cons (pv 0) (pa_cons (pe_joined (.cons pe_str (.cons (pe_fmt (pv 1)) (.cons pe_str .nil)))) pa_nil))))
    (pss_one (ps_ost (pv 0) (pv 1)))), ?_⟩
    walk_at "go"
    have hl := int_text_length_le (k := 1920) (by decide) hi
    have l1 : (Str.empty ++ Str.ofString "the text cannot be read from the index " ++ toString i).length ≤ 2000 := by
      rw [PySem.Str.length_append, PySem.Str.length_append]
      have e0 : (Str.ofString (toString i)).length = (toString i).length := PySem.ofString_length _
      have e1 : Str.empty.length = 0 := by decide +kernel
      have e2 : (Str.ofString "the text cannot be read from the index ").length = 39 := by decide +kernel
      omega
    refine .inr ⟨i, rfl, hi, _, rfl, Nat.le_trans l1 (by rw [sizeLine_eq]; decide), ?_⟩
    refine ⟨_, rfl, ?_, ?_⟩
    · rw [PySem.Str.length_append]
      have e2 : (Str.ofString " on").length = 3 := by decide +kernel
      rw [e2, sizeLine_eq]
      omega
    · refine ⟨a, _, _, rfl, by show 1 ≤ 1000; decide, (oexB_ok T.x_oex_BadText).1, ha, ?_⟩
      refine ⟨_, rfl, _, rfl, a, _, rfl, (oexB_ok T.x_oex_BadText).1, He.eqO_ok T.x_xf_BadText_at, .inl ⟨ha, fun dx nd ne => ?_⟩⟩
      exact k dx nd ne
end
/-! ### letters, digits and runs of them -/
section
variable {P : Program} {w : World} {K : PySem.W.Frag} {mg : Str → Option Value} {base : Heap}
def isL (c : Nat) : Bool := (decide (97 ≤ c) && decide (c ≤ 122)) || (decide (65 ≤ c) && decide (c ≤ 90))
def isD (c : Nat) : Bool := decide (48 ≤ c) && decide (c ≤ 57)
theorem sign_lt (a b : Nat) : (([a] : List Nat) < [b]) ↔ a < b := by
  constructor
  · intro h
    cases h with
    | rel h => exact h
    | cons h => cases h
  · intro h
    exact .rel h
theorem ge1 (c k : Nat) : (!decide (([c] : List Nat) < [k])) = decide (k ≤ c) := by
  by_cases h : c < k
  · rw [decide_eq_true ((sign_lt c k).mpr h), decide_eq_false (show ¬ k ≤ c from by omega)] <;> rfl
  · rw [decide_eq_false (fun e => h ((sign_lt c k).mp e)), decide_eq_true (show k ≤ c from by omega)] <;> rfl
theorem st0 : (Str.ofString "0").cps.toList = [48] := by decide +kernel
theorem st9 : (Str.ofString "9").cps.toList = [57] := by decide +kernel
theorem sta : (Str.ofString "a").cps.toList = [97] := by decide +kernel
theorem stz : (Str.ofString "z").cps.toList = [122] := by decide +kernel
theorem stA : (Str.ofString "A").cps.toList = [65] := by decide +kernel
theorem stZ : (Str.ofString "Z").cps.toList = [90] := by decide +kernel
/-- one sign is another one -/
theorem sign_is (c k : Nat) {s : Str} (e : s = ⟨#[k]⟩) : decide (V.str ⟨#[c]⟩ = V.str s) = decide (c = k) := by
  subst e
  by_cases h : c = k
  · subst h
    rw [decide_eq_true rfl, decide_eq_true rfl]
  · rw [decide_eq_false h, decide_eq_false fun t => h ?_]
    have t2 := congrArg (fun z : Str => z.cps.toList) (V.str.inj t)
    exact List.head_eq_of_cons_eq t2
def spSign (f : Nat → Bool) : Sp := fun vs H Q _ => ∃ c : Nat, vs = [.str ⟨#[c]⟩] ∧ Q (.bl (f c)) H
theorem ok_is_digit (T : Top w K mg) : FnOk P w K mg base CX0 1 (He.ga K ("is_digit" : Str)) (fdOf K d_is_digit) ["character"] (spSign isD) := by
  refine (T.f_is_digit).ok sc_is_digit (fun vs H Q E h => ?_) (fun cdv A outer s H vs Q E hr h => ?_)
  · obtain ⟨c, rfl, _⟩ := h
    rfl
  · obtain ⟨c, rfl, k⟩ := h
    refine ⟨_, PSs.nox (pss_one (ps_ret (pe_chain op_le_str op_le_str pe_str (pv 0) pe_str))), ?_⟩
    walk_at "go"
    rw [st0, ge1]
    by_cases q : 48 ≤ c
    · rw [if_pos (decide_eq_true q)]
      walk_at "go"
      rw [st9, ge1]
      unfold isD at k
      rw [decide_eq_true q, Bool.true_and] at k
      exact k
    · rw [if_neg (by rw [decide_eq_false q]; decide)]
      unfold isD at k
      rw [decide_eq_false q, Bool.false_and] at k
      exact k
theorem ok_is_letter (T : Top w K mg) : FnOk P w K mg base CX0 1 (He.ga K ("is_letter" : Str)) (fdOf K d_is_letter) ["character"] (spSign isL) := by
  refine (T.f_is_letter).ok sc_is_letter (fun vs H Q E h => ?_) (fun cdv A outer s H vs Q E hr h => ?_)
  · obtain ⟨c, rfl, _⟩ := h
    rfl
  · obtain ⟨c, rfl, k⟩ := h
    refine ⟨_, PSs.nox (pss_one (ps_ret (pe_or (pe_chain op_le_str op_le_str pe_str (pv 0) pe_str) (pe_one (pe_chain op_le_str op_le_str pe_str (pv 0) pe_str))))), ?_⟩
    walk_at "go"
    unfold isL at k
    rw [sta, ge1]
    by_cases q : 97 ≤ c
    · rw [if_pos (decide_eq_true q)]
      walk_at "go"
      rw [decide_eq_true q, Bool.true_and] at k
      rw [stz, ge1]
      by_cases q2 : c ≤ 122
      · rw [if_pos (decide_eq_true q2)]
        rw [decide_eq_true q2, Bool.true_or] at k
        exact k
      · rw [if_neg (by rw [decide_eq_false q2]; decide)]
        rw [decide_eq_false q2, Bool.false_or] at k
        walk_at "go"
        rw [stA, ge1]
        by_cases q3 : 65 ≤ c
        · rw [if_pos (decide_eq_true q3)]
          walk_at "go"
          rw [stZ, ge1]
          rw [decide_eq_true q3, Bool.true_and] at k
          exact k
        · exact absurd (show 65 ≤ c from by omega) q3
    · rw [if_neg (by rw [decide_eq_false q]; decide)]
      rw [decide_eq_false q, Bool.false_and, Bool.false_or] at k
      walk_at "go"
      rw [stA, ge1]
      by_cases q3 : 65 ≤ c
      · rw [if_pos (decide_eq_true q3)]
        walk_at "go"
        rw [stZ, ge1]
        rw [decide_eq_true q3, Bool.true_and] at k
        exact k
      · rw [if_neg (by rw [decide_eq_false q3]; decide)]
        rw [decide_eq_false q3, Bool.false_and] at k
        exact k
/-- where a run of such signs that begins at i ends -/
def runEnd (f : Nat → Bool) (cs : List Nat) (i : Nat) : Nat := i + ((cs.drop i).takeWhile f).length
theorem runEnd_step {f : Nat → Bool} {cs : List Nat} {i c : Nat} (h : cs[i]? = some c) (hf : f c = true) : runEnd f cs i = runEnd f cs (i + 1) := by
  obtain ⟨hi, e⟩ := List.getElem?_eq_some_iff.mp h
  unfold runEnd
  rw [List.drop_eq_getElem_cons hi, e, List.takeWhile_cons, if_pos hf, List.length_cons]
  omega
theorem runEnd_stop {f : Nat → Bool} {cs : List Nat} {i c : Nat} (h : cs[i]? = some c) (hf : f c = false) : runEnd f cs i = i := by
  obtain ⟨hi, e⟩ := List.getElem?_eq_some_iff.mp h
  unfold runEnd
  rw [List.drop_eq_getElem_cons hi, e, List.takeWhile_cons, if_neg (by rw [hf]; decide)]
  rfl
theorem runEnd_over {f : Nat → Bool} {cs : List Nat} {i : Nat} (h : cs.length ≤ i) : runEnd f cs i = i := by
  unfold runEnd
  rw [List.drop_eq_nil_of_le h]
  rfl
theorem runEnd_le (f : Nat → Bool) (cs : List Nat) (i : Nat) (h : i ≤ cs.length) : runEnd f cs i ≤ cs.length := by
  unfold runEnd
  have h1 := (List.takeWhile_sublist f (l := cs.drop i)).length_le
  rw [List.length_drop] at h1
  omega
theorem le_runEnd (f : Nat → Bool) (cs : List Nat) (i : Nat) : i ≤ runEnd f cs i := Nat.le_add_right _ _
theorem str_len (x : Str) : x.length = x.cps.toList.length := by simp [Str.length]
theorem str_fits {x : Str} (h : x.cps.toList.length ≤ 100000) : x.length ≤ sizeLine := by rw [str_len]; exact Nat.le_trans h (by rw [sizeLine_eq]; decide)
/-- a text of so many signs -/
def spRun (f : Nat → Bool) : Sp := fun vs H Q _ => ∃ (x : Str) (i : Nat), vs = [.str x, .int (i : Int)] ∧ x.cps.toList.length ≤ 100000 ∧ Q (.int ((runEnd f x.cps.toList i : Nat) : Int)) H
theorem ok__end_of_digits (T : Top w K mg) : FnOk P w K mg base CX0 2 (He.ga K ("_end_of_digits" : Str)) (fdOf K d__end_of_digits) ["source", "at"] (spRun isD) := by
  refine (T.f__end_of_digits).ok sc__end_of_digits (fun vs H Q E h => ?_) (fun cdv A outer s H vs Q E hr h => ?_)
  · obtain ⟨x, i, rfl, _⟩ := h
    rfl
  · obtain ⟨x, i, rfl, hx, k⟩ := h
    refine ⟨_, PSs.nox (pss_cons (ps_set (i := 2) sc__end_of_digits.nd rfl (Or.inl rfl) (pv 1))
    (pss_cons (ps_while PassesOwn.never (PW.pt (pw_and (pt_cmpR op_lt (pv 2) (pe_callB call_len_str (by rfl) T.n_len PySem.boot_len (pa_cons (pv 0) pa_nil)) (nomark _)) (pw_and1 (pt_val (pe_call (ok_is_digit (K := K) T) (hr.mono (by decide)) rfl T.g_is_digit T.f_is_digit.kp T.b_is_digit .nil pass0 (pa_cons (pe_ix ix_str (pv 0) (pv 2) (fun _ _ => rfl)) pa_nil))))))
    (pss_one (ps_aug (i := 2) sc__end_of_digits.nd rfl (Or.inl rfl) pe_int ip_add)))
    (pss_one (ps_ret (pv 2))))), ?_⟩
    walk_at "go"
    refine r_while (fun m σ H' => H' = H ∧ ∃ j : Nat, σ = [some (.str x), some (.int (i : Int)), some (.int (j : Int))] ∧ runEnd isD x.cps.toList j = runEnd isD x.cps.toList i ∧ m = x.cps.toList.length - j) (x.cps.toList.length - i) ⟨rfl, i, rfl, rfl, rfl⟩ ?_
    rintro m σ H' ⟨rfl, j, rfl, hj, rfl⟩
    walk_at "go"
    refine ⟨str_fits hx, ?_⟩
    walk_at "go"
    refine ite_d (fun c => ?_) (fun c => ?_)
    · have hjl : j < x.cps.toList.length := by rw [← str_len]; omega
      have hc := List.getElem?_eq_getElem hjl
      walk_at "go"
      refine ⟨x, _, _, rfl, rfl, str_fits hx, atI_nat hc, ?_⟩
      walk_at "go"
      by_cases q : isD x.cps.toList[j] = true
      · rw [if_pos q]
        refine ⟨_, fun _ _ z => z, ?_⟩
        walk_at "go"
        refine ⟨x.cps.toList.length - (j + 1), by omega, rfl, j + 1, rfl, ?_, rfl⟩
        rw [← hj, runEnd_step hc q]
      · rw [if_neg q]
        walk_at "go"
        rw [← hj, runEnd_stop hc (Bool.eq_false_iff.mpr q)] at k
        exact k
    · have hjl : x.cps.toList.length ≤ j := by rw [← str_len]; omega
      walk_at "go"
      rw [← hj, runEnd_over hjl] at k
      exact k
/-- a sign of a word -/
def isW (c : Nat) : Bool := isL c || isD c || decide (c = 95)
theorem ok__end_of_word (T : Top w K mg) : FnOk P w K mg base CX0 2 (He.ga K ("_end_of_word" : Str)) (fdOf K d__end_of_word) ["source", "at"] (spRun isW) := by
  refine (T.f__end_of_word).ok sc__end_of_word (fun vs H Q E h => ?_) (fun cdv A outer s H vs Q E hr h => ?_)
  · obtain ⟨x, i, rfl, _⟩ := h
    rfl
  · obtain ⟨x, i, rfl, hx, k⟩ := h
    refine ⟨_, PSs.nox (pss_cons (ps_set (i := 2) sc__end_of_word.nd rfl (Or.inl rfl) (pv 1))
    (pss_cons (ps_while PassesOwn.never (PW.pt (pw_and (pt_cmpR op_lt (pv 2) (pe_callB call_len_str (by rfl) T.n_len PySem.boot_len (pa_cons (pv 0) pa_nil)) (nomark _)) (pw_and1 (PW.pt (pw_or (pt_val (pe_call (ok_is_letter (K := K) T) (hr.mono (by decide)) rfl T.g_is_letter T.f_is_letter.kp T.b_is_letter .nil pass0 (pa_cons (pe_ix ix_str (pv 0) (pv 2) (fun _ _ => rfl)) pa_nil))) (pw_or (pt_val (pe_call (ok_is_digit (K := K) T) (hr.mono (by decide)) rfl T.g_is_digit T.f_is_digit.kp T.b_is_digit .nil pass0 (pa_cons (pe_ix ix_str (pv 0) (pv 2) (fun _ _ => rfl)) pa_nil))) (pw_or1 (pt_cmpR op_eq (pe_ix ix_str (pv 0) (pv 2) (fun _ _ => rfl)) pe_str (nomark _)))))))))
    (pss_one (ps_aug (i := 2) sc__end_of_word.nd rfl (Or.inl rfl) pe_int ip_add)))
    (pss_one (ps_ret (pv 2))))), ?_⟩
    walk_at "go"
    refine r_while (fun m σ H' => H' = H ∧ ∃ j : Nat, σ = [some (.str x), some (.int (i : Int)), some (.int (j : Int))] ∧ runEnd isW x.cps.toList j = runEnd isW x.cps.toList i ∧ m = x.cps.toList.length - j) (x.cps.toList.length - i) ⟨rfl, i, rfl, rfl, rfl⟩ ?_
    rintro m σ H' ⟨rfl, j, rfl, hj, rfl⟩
    walk_at "go"
    refine ⟨str_fits hx, ?_⟩
    walk_at "go"
    refine ite_d (fun c => ?_) (fun c => ?_)
    · have hjl : j < x.cps.toList.length := by rw [← str_len]; omega
      have hc := List.getElem?_eq_getElem hjl
      have yes : isW x.cps.toList[j] = true → tAug 2 (tC (V.int 1)) (ipI fun i j => i + j) { nx := fun σ' H'_1 => ∃ m', m' < x.cps.toList.length - j ∧ H'_1 = H' ∧ ∃ j : Nat, σ' = [some (V.str x), some (V.int (i : Int)), some (V.int (j : Int))] ∧ runEnd isW x.cps.toList j = runEnd isW x.cps.toList i ∧ m' = x.cps.toList.length - j, rt := Q, bk := fun σ H => tRet (tVar 2) { nx := fun x H' => Q V.non H', rt := Q } σ H, ct := fun σ' H'_1 => ∃ m', m' < x.cps.toList.length - j ∧ H'_1 = H' ∧ ∃ j : Nat, σ' = [some (V.str x), some (V.int (i : Int)), some (V.int (j : Int))] ∧ runEnd isW x.cps.toList j = runEnd isW x.cps.toList i ∧ m' = x.cps.toList.length - j } [some (V.str x), some (V.int (i : Int)), some (V.int (j : Int))] H' := by
        intro q
        walk_at "go"
        refine ⟨x.cps.toList.length - (j + 1), by omega, rfl, j + 1, rfl, ?_, rfl⟩
        rw [← hj, runEnd_step hc q]
      walk_at "go"
      refine ⟨x, _, _, rfl, rfl, str_fits hx, atI_nat hc, ?_⟩
      walk_at "go"
      by_cases q : isL x.cps.toList[j] = true
      · rw [if_pos q]
        walk_at "go"
        refine ⟨_, fun _ _ z => z, yes ?_⟩
        unfold isW
        rw [q] <;> rfl
      · rw [if_neg q]
        walk_at "go"
        refine ⟨x, _, _, rfl, rfl, str_fits hx, atI_nat hc, ?_⟩
        walk_at "go"
        by_cases q2 : isD x.cps.toList[j] = true
        · rw [if_pos q2]
          walk_at "go"
          refine ⟨_, fun _ _ z => z, yes ?_⟩
          unfold isW
          rw [q2, Bool.or_true] <;> rfl
        · rw [if_neg q2]
          walk_at "go"
          refine ⟨x, _, _, rfl, rfl, str_fits hx, atI_nat hc, ?_⟩
          walk_at "go"
          have e95 : decide (V.str ⟨#[x.cps.toList[j]]⟩ = V.str (Str.ofString "_")) = decide (x.cps.toList[j] = 95) := sign_is _ 95 (by decide +kernel)
          rw [e95]
          by_cases q3 : x.cps.toList[j] = 95
          · rw [if_pos (decide_eq_true q3)]
            refine ⟨_, fun _ _ z => z, yes ?_⟩
            unfold isW
            rw [decide_eq_true q3, Bool.or_true]
          · rw [if_neg (by rw [decide_eq_false q3]; decide)]
            walk_at "go"
            have no : isW x.cps.toList[j] = false := by
              unfold isW
              rw [Bool.eq_false_iff.mpr q, Bool.eq_false_iff.mpr q2, decide_eq_false q3] <;> rfl
            rw [← hj, runEnd_stop hc no] at k
            exact k
    · have hjl : x.cps.toList.length ≤ j := by rw [← str_len]; omega
      walk_at "go"
      rw [← hj, runEnd_over hjl] at k
      exact k
end
/-! ### numbers: digits, or digits, a point and digits -/
section
variable {P : Program} {w : World} {K : PySem.W.Frag} {mg : Str → Option Value} {base : Heap}
theorem from_nat (n p : Nat) : PySem.fromIndex n (p : Int) = p := by
  unfold PySem.fromIndex
  rw [if_neg (by omega)]
  omega
theorem starts1 (x : Str) (p k : Nat) {s : Str} (e : s = ⟨#[k]⟩) : Txt.startswith3 x s (p : Int) = decide (x.cps.toList[p]? = some k) := by
  subst e
  unfold Txt.startswith3
  rw [from_nat, Bool.eq_iff_iff, Bool.and_eq_true, decide_eq_true_eq, decide_eq_true_eq]
  exact PySem.StrLaws.subAt_one x k p
/-- where the digits behind the point at p end, or p -/
def behind (cs : List Nat) (p : Nat) : Nat := if cs[p]? = some 46 then runEnd isD cs (p + 1) else p
/-- the number's end, before its bounds are looked at -/
def cutAt (p e : Nat) : Nat := if e ≤ p + 1 then p else e
def numEnd (cs : List Nat) (i : Nat) : Nat :=
  let p := runEnd isD cs i
  let e := cutAt p (behind cs p)
  if (15 : Int) < (p : Int) - i ∨ (15 : Int) < (e : Int) - p - 1 then i else e
def spEndN : Sp := fun vs H Q _ => ∃ (x : Str) (i : Nat), vs = [.str x, .int (i : Int)] ∧ x.cps.toList.length ≤ 100000 ∧ Q (.int ((numEnd x.cps.toList i : Nat) : Int)) H
theorem ok__end_of_number (T : Top w K mg) : FnOk P w K mg base CX0 3 (He.ga K ("_end_of_number" : Str)) (fdOf K d__end_of_number) ["source", "at"] spEndN := by
  refine (T.f__end_of_number).ok sc__end_of_number (fun vs H Q E h => ?_) (fun cdv A outer s H vs Q E hr h => ?_)
  · obtain ⟨x, i, rfl, _⟩ := h
    rfl
  · obtain ⟨x, i, rfl, hx, k⟩ := h
    refine ⟨_, PSs.nox (pss_cons (ps_set (i := 2) sc__end_of_number.nd rfl (Or.inl rfl) (pe_call (ok__end_of_digits (K := K) T) (hr.mono (by decide)) rfl T.g__end_of_digits T.f__end_of_digits.kp T.b__end_of_digits .nil pass0 (pa_cons (pv 0) (pa_cons (pv 1) pa_nil))))
    (pss_cons (ps_set (i := 3) sc__end_of_number.nd rfl (Or.inl rfl) (pe_ifExp (pt_val (pe_bm PySem.F.plainAttrs_str PySem.F.slot_str_startswith PySem.F.type_str_startswith mt_startswith3 (pv 0) (pa_cons pe_str (pa_cons (pv 2) pa_nil)))) (pe_call (ok__end_of_digits (K := K) T) (hr.mono (by decide)) rfl T.g__end_of_digits T.f__end_of_digits.kp T.b__end_of_digits .nil pass0 (pa_cons (pv 0) (pa_cons (pe_op op_add (pv 2) pe_int) pa_nil))) (pv 2)))
    (C8.pss_cut (ps_if (pt_cmpR op_le (pv 3) (pe_op op_add (pv 2) pe_int) (nomark _))
    (pss_one (ps_set (i := 3) sc__end_of_number.nd rfl (Or.inl rfl) (pv 2)))
    pss_nil)
    (pss_cons (ps_if (PW.pt (pw_or (pt_cmpR op_gt (pe_op op_sub (pv 2) (pv 1)) (pe_globE rfl T.i_MOST_DIGITS) (nomark _)) (pw_or1 (pt_cmpR op_gt (pe_op op_sub (pe_op op_sub (pv 3) (pv 2)) pe_int) (pe_globE rfl T.i_MOST_DIGITS) (nomark _)))))
    (pss_one (ps_ret (pv 1)))
    pss_nil)
    (pss_one (ps_ret (pv 3))))))), ?_⟩
    walk_at "go"
    refine ⟨rfl, ?_⟩
    walk_at "go"
    refine ⟨x, _, _, rfl, rfl, ?_⟩
    rw [starts1 x _ 46 (by decide +kernel)]
    have main : ∀ p e : Nat, runEnd isD x.cps.toList i = p → behind x.cps.toList p = e → Q (.int (((if (15 : Int) < (p : Int) - i ∨ (15 : Int) < ((cutAt p e : Nat) : Int) - p - 1 then i else cutAt p e) : Nat) : Int)) H := by
      rintro p e rfl rfl
      exact k
    generalize hp : runEnd isD x.cps.toList i = p
    refine ⟨_, rfl, ?_⟩
    by_cases c46 : x.cps.toList[p]? = some 46
    · rw [if_pos (decide_eq_true c46)]
      have k := main p _ hp (if_pos c46)
      walk_at "go"
      generalize runEnd isD x.cps.toList (p + 1) = e at k ⊢
      walk_at "go"
      refine r_cut (fun σ H' => H' = H ∧ σ = [some (.str x), some (.int (i : Int)), some (.int (p : Int)), some (.int ((cutAt p e : Nat) : Int))]) ?_ ?_
      · walk_at "go"
        refine ite_d (fun c => ?_) (fun c => ?_)
        · walk_at "go"
          refine ⟨rfl, ?_⟩
          rw [show cutAt p e = p from if_pos (by omega)] <;> rfl
        · walk_at "go"
          refine ⟨rfl, ?_⟩
          rw [show cutAt p e = e from if_neg (by omega)] <;> rfl
      · rintro σ H' ⟨rfl, rfl⟩
        generalize cutAt p e = e' at k
        walk_at "go"
        refine ite_d (fun c => ?_) (fun c => ?_)
        · walk_at "go"
          rw [if_pos (.inl c)] at k
          exact k
        · walk_at "go"
          refine ite_d (fun c2 => ?_) (fun c2 => ?_)
          · walk_at "go"
            rw [if_pos (.inr c2)] at k
            exact k
          · walk_at "go"
            rw [if_neg (fun t => t.elim c c2)] at k
            exact k
    · rw [if_neg (by rw [decide_eq_false c46]; decide)]
      obtain ⟨e, he⟩ : ∃ e, e = p := ⟨p, rfl⟩
      have k := main p e hp (by rw [he]; exact if_neg c46)
      walk_at "go"
      have he' : V.int (p : Int) = V.int (e : Int) := by rw [he]
      walk_at "go"
      refine r_cut (fun σ H' => H' = H ∧ σ = [some (.str x), some (.int (i : Int)), some (.int (p : Int)), some (.int ((cutAt p e : Nat) : Int))]) ?_ ?_
      · walk_at "go"
        refine ite_d (fun c => ?_) (fun c => ?_)
        · walk_at "go"
          refine ⟨rfl, ?_⟩
          rw [show cutAt p e = p from if_pos (by omega)] <;> rfl
        · exact absurd (show (p : Int) ≤ (p : Int) + 1 from by omega) c
      · rintro σ H' ⟨rfl, rfl⟩
        generalize cutAt p e = e' at k
        walk_at "go"
        refine ite_d (fun c => ?_) (fun c => ?_)
        · walk_at "go"
          rw [if_pos (.inl c)] at k
          exact k
        · walk_at "go"
          refine ite_d (fun c2 => ?_) (fun c2 => ?_)
          · walk_at "go"
            rw [if_pos (.inr c2)] at k
            exact k
          · walk_at "go"
            rw [if_neg (fun t => t.elim c c2)] at k
            exact k
end
/-! ### gaps: spaces, line feeds, remarks -/
section
variable {P : Program} {w : World} {K : PySem.W.Frag} {mg : Str → Option Value} {base : Heap}
open PySem.StrLaws PySem.Builtin.Str in
theorem occ_full (s sub : Str) (hi : Nat) : ∀ (l : List Nat) (st : Array Nat × Nat), ¬ st.fst.size < 1 → (forIn l st (occBody s sub hi 1)).run.fst = st.fst
  | [], st, _ => rfl
  | a :: l, st, h => by
    rw [List.forIn_cons]
    unfold occBody
    rw [if_neg (fun t => h t.1.1.1)]
    exact occ_full s sub hi l _ h
open PySem.StrLaws PySem.Builtin.Str in
/-- one sign from a place on: the first of it, or the end -/
theorem occ_from (x : Str) (k : Nat) : ∀ (l : Nat) (p free : Nat), free ≤ p → p + l = x.length + 1 →
    (forIn (List.range' p l) ((#[] : Array Nat), free) (occBody x ⟨#[k]⟩ x.length 1)).run.fst.toList = (if runEnd (fun c => decide (c ≠ k)) x.cps.toList p < x.cps.toList.length then [runEnd (fun c => decide (c ≠ k)) x.cps.toList p] else [])
  | 0, p, free, _, hl => by
    have h : x.cps.toList.length ≤ p := by rw [← str_len]; omega
    rw [runEnd_over h, if_neg (by omega)]
    rfl
  | l + 1, p, free, hf, hl => by
    rw [List.range'_succ, List.forIn_cons]
    unfold occBody
    by_cases c : x.cps.toList[p]? = some k
    · have d := (subAt_one x k p).mpr c
      rw [if_pos ⟨⟨⟨by simp, hf⟩, d.1⟩, d.2⟩]
      have e := runEnd_stop (f := fun c => decide (c ≠ k)) c (by simp)
      have hp := (List.getElem?_eq_some_iff.mp c).1
      rw [e, if_pos hp]
      have f := occ_full x ⟨#[k]⟩ x.length (List.range' (p + 1) l) ((#[] : Array Nat).push p, p + (⟨#[k]⟩ : Str).length) (by simp)
      exact congrArg Array.toList f
    · rw [if_neg (fun t => c ((subAt_one x k p).mp ⟨t.1.2, t.2⟩))]
      have ih := occ_from x k l (p + 1) free (by omega) (by omega)
      refine Eq.trans ih ?_
      by_cases q : p < x.cps.toList.length
      · have hc := List.getElem?_eq_getElem q
        have n : x.cps.toList[p] ≠ k := fun t => c (by rw [hc, t])
        rw [runEnd_step (f := fun c => decide (c ≠ k)) hc (decide_eq_true n)]
      · have h : x.cps.toList.length ≤ p := by omega
        rw [runEnd_over h, runEnd_over (by omega), if_neg (by omega), if_neg (by omega)]
/-- where the line feed from p on stands, or the end -/
def feedAt (cs : List Nat) (p : Nat) : Nat := runEnd (fun c => decide (c ≠ 10)) cs p
theorem find_feed (x : Str) (p : Nat) (hp : p ≤ x.cps.toList.length) {s : Str} (e : s = ⟨#[10]⟩) : Txt.find3 x s (p : Int) = if feedAt x.cps.toList p < x.cps.toList.length then ((feedAt x.cps.toList p : Nat) : Int) else -1 := by
  subst e
  have o := occ_from x 10 (x.length + 1 - p) p p (Nat.le_refl _) (by rw [str_len]; omega)
  unfold Txt.find3
  rw [from_nat, PySem.StrLaws.occ_eq, o]
  show (match (if feedAt x.cps.toList p < x.cps.toList.length then [feedAt x.cps.toList p] else []) with | k :: _ => (k : Int) | [] => -1) = _
  by_cases c : feedAt x.cps.toList p < x.cps.toList.length
  · rw [if_pos c, if_pos c]
  · rw [if_neg c, if_neg c]
theorem feedAt_gt {cs : List Nat} {i : Nat} (h : cs[i]? = some 47) : i < feedAt cs i := by
  have e := runEnd_step (f := fun c => decide (c ≠ 10)) h (by decide)
  have l := le_runEnd (fun c => decide (c ≠ 10)) cs (i + 1)
  unfold feedAt
  omega
theorem starts2 (x : Str) (p a b : Nat) {s : Str} (e : s = ⟨#[a, b]⟩) : Txt.startswith3 x s (p : Int) = (decide (x.cps.toList[p]? = some a) && decide (x.cps.toList[p + 1]? = some b)) := by
  subst e
  unfold Txt.startswith3
  rw [from_nat, Bool.eq_iff_iff, Bool.and_eq_true, Bool.and_eq_true, decide_eq_true_eq, decide_eq_true_eq, decide_eq_true_eq, PySem.StrLaws.subAt_eq]
  show (p + 2 ≤ x.length ∧ ((x.cps.toList.drop p).take 2 == [a, b]) = true) ↔ _
  have e0 : x.cps.toList[p]? = (x.cps.toList.drop p)[0]? := by rw [List.getElem?_drop]; rfl
  have e1 : x.cps.toList[p + 1]? = (x.cps.toList.drop p)[1]? := by rw [List.getElem?_drop]
  have el : (x.cps.toList.drop p).length = x.length - p := by rw [List.length_drop, str_len]
  rw [e0, e1, beq_iff_eq]
  generalize x.cps.toList.drop p = l at el ⊢
  match l, el with
  | [], el => simp
  | [c], el => simp
  | c :: d :: r, el =>
    simp only [List.length_cons] at el
    simp only [List.take_succ_cons, List.take_zero, List.getElem?_cons_zero, List.getElem?_cons_succ, List.cons.injEq, and_true, Option.some.injEq]
    exact ⟨fun h => h.2, fun h => ⟨by omega, h⟩⟩
/-- where the next token begins, or the end -/
def nextAt (cs : List Nat) (i : Nat) : Nat :=
  if h : cs[i]? = some 47 ∧ cs[i + 1]? = some 47 then nextAt cs (feedAt cs i)
  else if h2 : cs[i]? = some 32 ∨ cs[i]? = some 10 then nextAt cs (i + 1)
  else i
termination_by cs.length - i
decreasing_by
  · have a := feedAt_gt h.1
    have b := (List.getElem?_eq_some_iff.mp h.1).1
    omega
  · have b : i < cs.length := by
      rcases h2 with h2 | h2
      · exact (List.getElem?_eq_some_iff.mp h2).1
      · exact (List.getElem?_eq_some_iff.mp h2).1
    omega
theorem nextAt_remark {cs : List Nat} {i : Nat} (h : cs[i]? = some 47 ∧ cs[i + 1]? = some 47) : nextAt cs i = nextAt cs (feedAt cs i) := by rw [nextAt, dif_pos h]
theorem nextAt_space {cs : List Nat} {i : Nat} (h : cs[i]? = some 32 ∨ cs[i]? = some 10) : nextAt cs i = nextAt cs (i + 1) := by
  rw [nextAt, dif_neg (fun t => ?_), dif_pos h]
  rcases h with h | h
  · rw [t.1] at h
    cases h
  · rw [t.1] at h
    cases h
theorem nextAt_stop {cs : List Nat} {i : Nat} (h1 : ¬ (cs[i]? = some 47 ∧ cs[i + 1]? = some 47)) (h2 : ¬ (cs[i]? = some 32 ∨ cs[i]? = some 10)) : nextAt cs i = i := by rw [nextAt, dif_neg h1, dif_neg h2]
theorem nextAt_over {cs : List Nat} {i : Nat} (h : cs.length ≤ i) : nextAt cs i = i := by
  have e := List.getElem?_eq_none h
  exact nextAt_stop (fun t => by rw [e] at t; cases t.1) (fun t => by rw [e] at t; rcases t with t | t <;> cases t)
def spNext : Sp := fun vs H Q _ => ∃ (x : Str) (i : Nat), vs = [.str x, .int (i : Int)] ∧ x.cps.toList.length ≤ 100000 ∧ Q (.int ((nextAt x.cps.toList i : Nat) : Int)) H
theorem ok__next_start (T : Top w K mg) : FnOk P w K mg base CX0 2 (He.ga K ("_next_start" : Str)) (fdOf K d__next_start) ["source", "at"] spNext := by
  refine (T.f__next_start).ok sc__next_start (fun vs H Q E h => ?_) (fun cdv A outer s H vs Q E hr h => ?_)
  · obtain ⟨x, i, rfl, _⟩ := h
    rfl
  · obtain ⟨x, i, rfl, hx, k⟩ := h
    refine ⟨_, PSs.nox (pss_cons (ps_while PassesOwn.never (pt_cmpR op_lt (pv 1) (pe_callB call_len_str (by rfl) T.n_len PySem.boot_len (pa_cons (pv 0) pa_nil)) (nomark _))
    (pss_one (ps_if (pt_val (pe_bm PySem.F.plainAttrs_str PySem.F.slot_str_startswith PySem.F.type_str_startswith mt_startswith3 (pv 0) (pa_cons pe_str (pa_cons (pv 1) pa_nil))))
    (pss_cons (ps_set (i := 2) sc__next_start.nd rfl (Or.inl rfl) (pe_bm PySem.F.plainAttrs_str PySem.F.slot_str_find PySem.F.type_str_find mt_find3 (pv 0) (pa_cons pe_str (pa_cons (pv 1) pa_nil))))
    (pss_one (ps_set (i := 1) sc__next_start.nd rfl (Or.inl rfl) (pe_ifExp (pt_cmpR op_lt (pv 2) pe_int (nomark _)) (pe_callB call_len_str (by rfl) T.n_len PySem.boot_len (pa_cons (pv 0) pa_nil)) (pv 2)))))
    (pss_one (ps_if (pt_cmpR op_in_sign (pe_ix ix_str (pv 0) (pv 1) (fun _ _ => rfl)) pe_str (by rfl))
    (pss_one (ps_aug (i := 1) sc__next_start.nd rfl (Or.inl rfl) pe_int ip_add))
    (pss_one (ps_ret (pv 1))))))))
    (pss_one (ps_ret (pv 1)))), ?_⟩
    walk_at "go"
    refine r_while (fun m σ H' => H' = H ∧ ∃ (j : Nat) (e : Option V), σ = [some (.str x), some (.int (j : Int)), e] ∧ nextAt x.cps.toList j = nextAt x.cps.toList i ∧ m = x.cps.toList.length - j) (x.cps.toList.length - i) ⟨rfl, i, _, rfl, rfl, rfl⟩ ?_
    rintro m σ H' ⟨rfl, j, e, rfl, hj, rfl⟩
    walk_at "go"
    refine ⟨str_fits hx, ?_⟩
    walk_at "go"
    refine ite_d (fun c => ?_) (fun c => ?_)
    · have hjl : j < x.cps.toList.length := by rw [← str_len]; omega
      have hc := List.getElem?_eq_getElem hjl
      refine ⟨_, fun _ _ z => z, ?_⟩
      walk_at "go"
      refine ⟨rfl, ?_⟩
      walk_at "go"
      refine ⟨x, _, _, rfl, rfl, ?_⟩
      rw [starts2 x _ 47 47 (by decide +kernel)]
      refine ⟨_, rfl, ?_⟩
      by_cases cc : x.cps.toList[j]? = some 47 ∧ x.cps.toList[j + 1]? = some 47
      · rw [if_pos (by rw [decide_eq_true cc.1, decide_eq_true cc.2] <;> rfl)]
        walk_at "go"
        refine ⟨rfl, ?_⟩
        walk_at "go"
        refine ⟨x, _, _, rfl, rfl, ?_⟩
        rw [find_feed x j (by omega) (by decide +kernel)]
        have g := feedAt_gt cc.1
        have le : feedAt x.cps.toList j ≤ x.cps.toList.length := runEnd_le _ _ _ (by omega)
        have hn := nextAt_remark cc
        by_cases f : feedAt x.cps.toList j < x.cps.toList.length
        · rw [if_pos f]
          walk_at "go"
          exact ⟨_, Nat.sub_lt_sub_left hjl g, rfl, _, _, rfl, by rw [← hn, hj], rfl⟩
        · rw [if_neg f]
          walk_at "go"
          refine @ite_d ((-1 : Int) < 0) _ True (Int.decLt _ _) (fun c => ?_) (fun _ => trivial)
          walk_at "go"
          refine ⟨str_fits hx, ?_⟩
          walk_at "go"
          have e : x.length = feedAt x.cps.toList j := by rw [str_len]; omega
          exact ⟨_, Nat.sub_lt_sub_left hjl (by rw [e]; exact g), rfl, x.length, _, rfl, by rw [e, ← hn, hj], rfl⟩
      · rw [if_neg (by rw [Bool.and_eq_true, decide_eq_true_eq, decide_eq_true_eq]; exact cc)]
        walk_at "go"
        refine ⟨x, _, _, rfl, rfl, str_fits hx, atI_nat hc, ?_⟩
        walk_at "go"
        have e10 : (Str.ofString " \n").cps.toList = [32, 10] := by decide +kernel
        refine ite_d (fun c => ?_) (fun c => ?_)
        · rw [e10] at c
          have h : x.cps.toList[j]? = some 32 ∨ x.cps.toList[j]? = some 10 := by
            rw [hc]
            rcases List.mem_cons.mp c with c | c
            · exact .inl (by rw [c])
            · exact .inr (by rw [List.mem_singleton.mp c])
          walk_at "go"
          exact ⟨_, Nat.sub_lt_sub_left hjl (Nat.lt_succ_self j), rfl, j + 1, _, rfl, by rw [← nextAt_space h, hj], rfl⟩
        · rw [e10] at c
          have h : ¬ (x.cps.toList[j]? = some 32 ∨ x.cps.toList[j]? = some 10) := by
            rw [hc]
            rintro (t | t)
            · exact c (by rw [Option.some.inj t]; decide)
            · exact c (by rw [Option.some.inj t]; decide)
          walk_at "go"
          rw [← hj, nextAt_stop cc h] at k
          exact k
    · have hjl : x.cps.toList.length ≤ j := by rw [← str_len]; omega
      walk_at "go"
      rw [← hj, nextAt_over hjl] at k
      exact k
end
/-! ### one token -/
section
variable {P : Program} {w : World} {K : PySem.W.Frag} {mg : Str → Option Value} {base : Heap}
def keyL : List Str := ["and", "connect", "connector", "der", "discrete", "else", "end", "equation", "extends", "false", "flow", "for", "if", "in", "initial", "input", "loop", "model", "not", "or", "parameter", "pre", "reset", "sample", "size", "sum", "then", "time", "true", "when"]
def longL : List Str := ["==", "<=", ">=", "<>"]
theorem flat_strs (xs : List Str) : (xs.map V.str).all flatV = true := by
  induction xs with
  | nil => rfl
  | cons x xs ih => exact ih
def kindOf (x : Str) (c : Nat) : Str := if isL c = true then (if inV (.str x) (keyL.map V.str) = true then "key" else "word") else if isD c = true then "number" else "symbol"
def spKind : Sp := fun vs H Q _ => ∃ (x : Str) (c : Nat), vs = [.str x] ∧ x.cps.toList[0]? = some c ∧ x.cps.toList.length ≤ 100000 ∧ Q (.str (kindOf x c)) H
theorem ok__kind (T : Top w K mg) : FnOk P w K mg base CX0 2 (He.ga K ("_kind" : Str)) (fdOf K d__kind) ["text"] spKind := by
  refine (T.f__kind).ok sc__kind (fun vs H Q E h => ?_) (fun cdv A outer s H vs Q E hr h => ?_)
  · obtain ⟨x, c, rfl, _⟩ := h
    rfl
  · obtain ⟨x, c, rfl, hc, hx, k⟩ := h
    have hc0 : atI x.cps.toList 0 = some c := atI_nat (j := 0) hc
    unfold kindOf at k
    refine ⟨_, PSs.nox (pss_cons (ps_if (pt_val (pe_call (ok_is_letter (K := K) T) (hr.mono (by decide)) rfl T.g_is_letter T.f_is_letter.kp T.b_is_letter .nil pass0 (pa_cons (pe_ix ix_str (pv 0) pe_int (fun _ _ => rfl)) pa_nil)))
    (pss_one (ps_ret (pe_ifExp (pt_cmpR (op_inK (K := K) rfl) (pv 0) (pe_globE rfl T.k_KEYWORDS) (by rfl)) pe_str pe_str)))
    pss_nil)
    (pss_one (ps_ret (pe_ifExp (pt_val (pe_call (ok_is_digit (K := K) T) (hr.mono (by decide)) rfl T.g_is_digit T.f_is_digit.kp T.b_is_digit .nil pass0 (pa_cons (pe_ix ix_str (pv 0) pe_int (fun _ _ => rfl)) pa_nil))) pe_str pe_str)))), ?_⟩
    walk_at "go"
    refine ⟨x, _, _, rfl, rfl, str_fits hx, hc0, ?_⟩
    walk_at "go"
    by_cases q : isL c = true
    · rw [if_pos q]
      rw [if_pos q] at k
      walk_at "go"
      refine ⟨_, _, rfl, .inr (tupStrs_ok (xs := keyL) T.x_t_KEYWORDS (by decide)), rfl, flat_strs _, ?_⟩
      rw [if_neg (show ¬ (false = true) from by decide)]
      by_cases q2 : inV (.str x) (keyL.map V.str) = true
      · rw [if_pos q2] at k
        rw [q2]
        walk_at "go"
        exact k
      · rw [if_neg q2] at k
        rw [Bool.eq_false_iff.mpr q2]
        walk_at "go"
        exact k
    · rw [if_neg q]
      rw [if_neg q] at k
      walk_at "go"
      refine ⟨x, _, _, rfl, rfl, str_fits hx, hc0, ?_⟩
      walk_at "go"
      by_cases q2 : isD c = true
      · rw [if_pos q2]
        rw [if_pos q2] at k
        walk_at "go"
        exact k
      · rw [if_neg q2]
        rw [if_neg q2] at k
        walk_at "go"
        exact k
def symL : Str := "()[]{},;.=<>+-*/:"
def longAt (x : Str) (i : Nat) : Bool := inV (.str (cutS x (some (i : Int)) (some ((i : Int) + 2)))) (longL.map V.str)
/-- where the token that begins at i ends, or i -/
def tokEnd (x : Str) (i c : Nat) : Nat :=
  if isL c = true then (if runEnd isW x.cps.toList i ≤ i + 20 then runEnd isW x.cps.toList i else i)
  else if isD c = true then numEnd x.cps.toList i
  else if longAt x i = true then i + 2
  else if c ∈ symL.cps.toList then i + 1 else i
def spTokEnd : Sp := fun vs H Q _ => ∃ (x : Str) (i c : Nat), vs = [.str x, .int (i : Int)] ∧ x.cps.toList[i]? = some c ∧ x.cps.toList.length ≤ 100000 ∧ Q (.int ((tokEnd x i c : Nat) : Int)) H
theorem ok__end_of_token (T : Top w K mg) : FnOk P w K mg base CX0 4 (He.ga K ("_end_of_token" : Str)) (fdOf K d__end_of_token) ["source", "at"] spTokEnd := by
  refine (T.f__end_of_token).ok sc__end_of_token (fun vs H Q E h => ?_) (fun cdv A outer s H vs Q E hr h => ?_)
  · obtain ⟨x, i, c, rfl, _⟩ := h
    rfl
  · obtain ⟨x, i, c, rfl, hc, hx, k⟩ := h
    have hci : atI x.cps.toList (i : Int) = some c := atI_nat hc
    unfold tokEnd at k
    refine ⟨_, PSs.nox (pss_cons (ps_if (pt_val (pe_call (ok_is_letter (K := K) T) (hr.mono (by decide)) rfl T.g_is_letter T.f_is_letter.kp T.b_is_letter .nil pass0 (pa_cons (pe_ix ix_str (pv 0) (pv 1) (fun _ _ => rfl)) pa_nil)))
    (pss_cons (ps_set (i := 2) sc__end_of_token.nd rfl (Or.inl rfl) (pe_call (ok__end_of_word (K := K) T) (hr.mono (by decide)) rfl T.g__end_of_word T.f__end_of_word.kp T.b__end_of_word .nil pass0 (pa_cons (pv 0) (pa_cons (pv 1) pa_nil))))
    (pss_one (ps_ret (pe_ifExp (pt_cmpR op_le (pe_op op_sub (pv 2) (pv 1)) (pe_globE rfl T.i_MOST_LETTERS) (nomark _)) (pv 2) (pv 1)))))
    pss_nil)
    (pss_cons (ps_if (pt_val (pe_call (ok_is_digit (K := K) T) (hr.mono (by decide)) rfl T.g_is_digit T.f_is_digit.kp T.b_is_digit .nil pass0 (pa_cons (pe_ix ix_str (pv 0) (pv 1) (fun _ _ => rfl)) pa_nil)))
    (pss_one (ps_ret (pe_call (ok__end_of_number (K := K) T) (hr.mono (by decide)) rfl T.g__end_of_number T.f__end_of_number.kp T.b__end_of_number .nil pass0 (pa_cons (pv 0) (pa_cons (pv 1) pa_nil)))))
    pss_nil)
    (pss_cons (ps_if (pt_cmpR (op_inK (K := K) rfl) (pe_slice sl_str (pv 0) (po_some (pv 1)) (po_some (pe_op op_add (pv 1) pe_int))) (pe_globE rfl T.k_LONG_SYMBOLS) (by rfl))
    (pss_one (ps_ret (pe_op op_add (pv 1) pe_int)))
    pss_nil)
    (pss_one (ps_ret (pe_ifExp (pt_cmpR op_in_sign (pe_ix ix_str (pv 0) (pv 1) (fun _ _ => rfl)) (pe_globE rfl T.s_SYMBOLS) (by rfl)) (pe_op op_add (pv 1) pe_int) (pv 1))))))), ?_⟩
    walk_at "go"
    refine ⟨x, _, _, rfl, rfl, str_fits hx, hci, ?_⟩
    walk_at "go"
    by_cases q : isL c = true
    · rw [if_pos q]
      rw [if_pos q] at k
      walk_at "go"
      refine ite_d (fun d => ?_) (fun d => ?_)
      · rw [if_pos (by omega)] at k
        walk_at "go"
        exact k
      · rw [if_neg (by omega)] at k
        walk_at "go"
        exact k
    · rw [if_neg q]
      rw [if_neg q] at k
      walk_at "go"
      refine ⟨x, _, _, rfl, rfl, str_fits hx, hci, ?_⟩
      walk_at "go"
      by_cases q2 : isD c = true
      · rw [if_pos q2]
        rw [if_pos q2] at k
        walk_at "go"
        exact k
      · rw [if_neg q2]
        rw [if_neg q2] at k
        walk_at "go"
        refine ⟨str_fits hx, ?_⟩
        walk_at "go"
        refine ⟨_, _, rfl, .inr (tupStrs_ok (xs := longL) T.x_t_LONG_SYMBOLS (by decide)), rfl, flat_strs _, ?_⟩
        rw [if_neg (show ¬ (false = true) from by decide)]
        unfold longAt at k
        by_cases q3 : inV (.str (cutS x (some (i : Int)) (some ((i : Int) + 2)))) (longL.map V.str) = true
        · rw [if_pos q3] at k
          rw [q3]
          walk_at "go"
          exact k
        · rw [if_neg q3] at k
          rw [Bool.eq_false_iff.mpr q3]
          walk_at "go"
          refine ⟨x, _, _, rfl, rfl, str_fits hx, hci, ?_⟩
          walk_at "go"
          refine ite_d (fun d => ?_) (fun d => ?_)
          · rw [if_pos (show c ∈ symL.cps.toList from d)] at k
            walk_at "go"
            exact k
          · rw [if_neg (show ¬ c ∈ symL.cps.toList from d)] at k
            walk_at "go"
            exact k
/-- the text from i to e -/
def piece (x : Str) (i e : Nat) : Str := cutS x (some (i : Int)) (some (e : Int))
/-- the tokens from i on (i no gap), and where they stop -/
def scan (x : Str) : Nat → Nat → List (Str × Str × Nat) × Nat
  | 0, i => ([], i)
  | n + 1, i => match x.cps.toList[i]? with
    | none => ([], x.cps.toList.length)
    | some c =>
      if tokEnd x i c = i then ([], i)
      else
        let r := scan x n (nextAt x.cps.toList (tokEnd x i c))
        ((kindOf (piece x i (tokEnd x i c)) c, piece x i (tokEnd x i c), i) :: r.1, r.2)
theorem le_nextAt (cs : List Nat) : ∀ (m i : Nat), cs.length - i ≤ m → i ≤ nextAt cs i := by
  intro m
  induction m with
  | zero =>
    intro i h
    rw [nextAt_over (by omega)]
    exact Nat.le_refl _
  | succ m ih =>
    intro i h
    by_cases h1 : cs[i]? = some 47 ∧ cs[i + 1]? = some 47
    · have g := feedAt_gt h1.1
      have l := (List.getElem?_eq_some_iff.mp h1.1).1
      rw [nextAt_remark h1]
      have := ih (feedAt cs i) (by omega)
      omega
    · by_cases h2 : cs[i]? = some 32 ∨ cs[i]? = some 10
      · rw [nextAt_space h2]
        have := ih (i + 1) (by omega)
        omega
      · rw [nextAt_stop h1 h2]
        exact Nat.le_refl _
theorem le_numEnd (cs : List Nat) (i : Nat) : i ≤ numEnd cs i := by
  unfold numEnd
  have a := le_runEnd isD cs i
  generalize runEnd isD cs i = p at a ⊢
  have b : p ≤ cutAt p (behind cs p) := by
    unfold cutAt
    split
    · exact Nat.le_refl _
    · omega
  dsimp only
  split <;> omega
theorem le_tokEnd (x : Str) (i c : Nat) : i ≤ tokEnd x i c := by
  unfold tokEnd
  have a := le_runEnd isW x.cps.toList i
  have b := le_numEnd x.cps.toList i
  repeat' split
  all_goals omega
theorem piece_head {x : Str} {i e c : Nat} (h : x.cps.toList[i]? = some c) (he : i < e) : (piece x i e).cps.toList[0]? = some c := by
  obtain ⟨hi, hc⟩ := List.getElem?_eq_some_iff.mp h
  have hl := str_len x
  unfold piece cutS
  rw [HT.sIx_nat, HT.sIx_nat, List.toList_toArray, Nat.min_eq_left (show i ≤ x.length from by omega), List.drop_eq_getElem_cons hi, hc]
  rw [show min e x.length - i = (min e x.length - i - 1) + 1 from by omega, List.take_succ_cons]
  rfl
theorem piece_len (x : Str) (i e : Nat) : (piece x i e).cps.toList.length ≤ x.cps.toList.length := by
  unfold piece cutS
  rw [List.length_take, List.length_drop]
  omega
end
section
variable {P : Program} {w : World} {K : PySem.W.Frag} {mg : Str → Option Value} {base : Heap}
/-- the tuples of the tokens -/
def TokL (H : Hp) (l : List Addr) (ts : List (Str × Str × Nat)) : Prop := Paired (fun (a : Addr) (t : Str × Str × Nat) => H a = some (.tup [.str t.1, .str t.2.1, .int (t.2.2 : Int)])) l ts
theorem TokL.mono {H H' : Hp} (e : Same H H') : ∀ {l : List Addr} {ts : List (Str × Str × Nat)}, TokL H l ts → TokL H' l ts
  | [], [], .nil => .nil
  | _ :: _, _ :: _, .cons a b => .cons (e _ _ a) (TokL.mono e b)
theorem TokL.snoc {H : Hp} {a : Addr} {t : Str × Str × Nat} (h : H a = some (.tup [.str t.1, .str t.2.1, .int (t.2.2 : Int)])) : ∀ {l : List Addr} {ts : List (Str × Str × Nat)}, TokL H l ts → TokL H (l ++ [a]) (ts ++ [t])
  | [], [], .nil => .cons h .nil
  | _ :: _, _ :: _, .cons b c => .cons b (TokL.snoc h c)
theorem TokL.upd {H : Hp} {q : Addr} {o : HO} {xs : List V} (h : H q = some (.lst xs)) : ∀ {l : List Addr} {ts : List (Str × Str × Nat)}, TokL H l ts → TokL (upd H q o) l ts
  | [], [], .nil => .nil
  | _ :: _, _ :: _, .cons a b => .cons (by rw [upd_ne (ne_of a h (by intro z; cases z))]; exact a) (TokL.upd h b)
def spUntil : Sp := fun vs H Q _ => ∃ x : Str, vs = [.str x] ∧ x.cps.toList.length ≤ 100000 ∧
  ∀ p l as H', Same H H' → H l = none → H' p = some (.tup [.ref l, .int (((scan x (x.cps.toList.length + 1) (nextAt x.cps.toList 0)).2 : Nat) : Int)]) → H' l = some (.lst (as.map V.ref)) → TokL H' as (scan x (x.cps.toList.length + 1) (nextAt x.cps.toList 0)).1 → Q (.ref p) H'
theorem ok_tokens_until (T : Top w K mg) : FnOk P w K mg base CX0 5 (He.ga K ("tokens_until" : Str)) (fdOf K d_tokens_until) ["source"] spUntil := by
  refine (T.f_tokens_until).ok sc_tokens_until (fun vs H Q E h => ?_) (fun cdv A outer s H vs Q E hr h => ?_)
  · obtain ⟨x, rfl, _⟩ := h
    rfl
  · obtain ⟨x, rfl, hx, k⟩ := h
    refine ⟨_, PSs.nox (pss_cons (ps_set (i := 1) sc_tokens_until.nd rfl (Or.inl rfl) (pe_lst pa_nil))
    (pss_cons (ps_set (i := 2) sc_tokens_until.nd rfl (Or.inl rfl) (pe_call (ok__next_start (K := K) T) (hr.mono (by decide)) rfl T.g__next_start T.f__next_start.kp T.b__next_start .nil pass0 (pa_cons (pv 0) (pa_cons pe_int pa_nil))))
    (pss_cons (ps_while PassesOwn.never (pt_cmpR op_lt (pv 2) (pe_callB call_len_str (by rfl) T.n_len PySem.boot_len (pa_cons (pv 0) pa_nil)) (nomark _))
    (pss_cons (ps_set (i := 3) sc_tokens_until.nd rfl (Or.inl rfl) (pe_call (ok__end_of_token (K := K) T) (hr.mono (by decide)) rfl T.g__end_of_token T.f__end_of_token.kp T.b__end_of_token .nil pass0 (pa_cons (pv 0) (pa_cons (pv 2) pa_nil))))
    (pss_cons (ps_if (pt_cmpR op_eq (pv 3) (pv 2) (nomark _))
    (pss_one (ps_ret (pe_tup (pa_cons (pv 1) (pa_cons (pv 2) pa_nil)))))
    pss_nil)
    (pss_cons (ps_set (i := 4) sc_tokens_until.nd rfl (Or.inl rfl) (pe_slice sl_str (pv 0) (po_some (pv 2)) (po_some (pv 3))))
    (pss_cons (ps_expr (pe_bm PySem.F.plainAttrs_list PySem.F.slot_list_append PySem.F.type_list_append mt_append (pv 1) (pa_cons (pe_tup (pa_cons (pe_call (ok__kind (K := K) T) (hr.mono (by decide)) rfl T.g__kind T.f__kind.kp T.b__kind .nil pass0 (pa_cons (pv 4) pa_nil)) (pa_cons (pv 4) (pa_cons (pv 2) pa_nil)))) pa_nil)))
    (pss_one (ps_set (i := 2) sc_tokens_until.nd rfl (Or.inl rfl) (pe_call (ok__next_start (K := K) T) (hr.mono (by decide)) rfl T.g__next_start T.f__next_start.kp T.b__next_start .nil pass0 (pa_cons (pv 0) (pa_cons (pv 3) pa_nil))))))))))
    (pss_one (ps_ret (pe_tup (pa_cons (pv 1) (pa_cons (pe_callB call_len_str (by rfl) T.n_len PySem.boot_len (pa_cons (pv 0) pa_nil)) pa_nil)))))))), ?_⟩
    walk_at "go"
    intro l hl
    walk_at "go"
    generalize hi0 : nextAt x.cps.toList 0 = i0 at k ⊢
    refine r_while (fun m σ H' => ∃ (j : Nat) (as : List Addr) (ts : List (Str × Str × Nat)) (e t : Option V), σ = [some (.str x), some (.ref l), some (.int (j : Int)), e, t] ∧ Same H H' ∧ H' l = some (.lst (as.map V.ref)) ∧ TokL H' as ts ∧
      scan x (x.cps.toList.length + 1) i0 = (ts ++ (scan x m j).1, (scan x m j).2) ∧ x.cps.toList.length - j < m ∧ as.length ≤ j) (x.cps.toList.length + 1) ⟨i0, [], [], _, _, rfl, same_new hl, upd_same, .nil, rfl, by omega, Nat.zero_le _⟩ ?_
    rintro m σ H' ⟨j, as, ts, e, t, rfl, e1, hl1, tk, sc, hm, ha⟩
    obtain ⟨m, rfl⟩ : ∃ m', m = m' + 1 := ⟨m - 1, by omega⟩
    walk_at "go"
    refine ⟨str_fits hx, ?_⟩
    walk_at "go"
    refine ite_d (fun c => ?_) (fun c => ?_)
    · have hjl : j < x.cps.toList.length := by rw [← str_len]; omega
      have hc := List.getElem?_eq_getElem hjl
      generalize x.cps.toList[j] = ch at hc
      refine ⟨_, fun _ _ z => z, ?_⟩
      walk_at "go"
      refine ⟨x, j, ch, rfl, hc, hx, ?_⟩
      walk_at "go"
      refine ite_d (fun d => ?_) (fun d => ?_)
      · have d' : tokEnd x j ch = j := Int.ofNat.inj (vint_inj d)
        have en : scan x (m + 1) j = ([], j) := by
          rw [scan, hc]
          exact if_pos d'
        rw [en] at sc
        rw [sc, List.append_nil] at k
        walk_at "go"
        exact ⟨by show 2 ≤ sizeLine; decide, fun p hp => k p l as _ (e1.trans (same_new hp)) hl upd_same (by rw [upd_ne (ne_of_none hl1 hp)]; exact hl1) (tk.mono (same_new hp))⟩
      · have d' : ¬ tokEnd x j ch = j := fun z => d (by rw [z])
        have lt : j < tokEnd x j ch := Nat.lt_of_le_of_ne (le_tokEnd x j ch) (fun z => d' z.symm)
        have en : scan x (m + 1) j = ((kindOf (piece x j (tokEnd x j ch)) ch, piece x j (tokEnd x j ch), j) :: (scan x m (nextAt x.cps.toList (tokEnd x j ch))).1, (scan x m (nextAt x.cps.toList (tokEnd x j ch))).2) := by
          rw [scan, hc]
          exact if_neg d'
        rw [en] at sc
        have ph := piece_head hc lt
        have pl := piece_len x j (tokEnd x j ch)
        have nx := le_nextAt x.cps.toList _ (tokEnd x j ch) (Nat.le_refl _)
        clear en
        generalize tokEnd x j ch = ee at *
        walk_at "go"
        refine ⟨str_fits hx, ?_⟩
        walk_at "go"
        refine ⟨.inl ⟨rfl, _, SqL.of hl1⟩, ?_⟩
        walk_at "go"
        refine ⟨_, ch, rfl, ph, Nat.le_trans pl hx, ?_⟩
        walk_at "go"
        refine ⟨by show 3 ≤ sizeLine; decide, fun p hp => ?_⟩
        walk_at "go"
        have hlp : l ≠ p := ne_of_none hl1 hp
        refine ⟨l, _, _, rfl, rfl, by rw [upd_ne hlp]; exact hl1, by rw [List.length_map, sizeLine_eq]; omega, ?_⟩
        walk_at "go"
        refine ⟨m, Nat.lt_succ_self m, nextAt x.cps.toList ee, as ++ [p], ts ++ [(kindOf (piece x j ee) ch, piece x j ee, j)], _, _, rfl, ?_, ?_, ?_, ?_, by omega, by rw [List.length_append, List.length_singleton]; omega⟩
        · intro b u hb
          rw [upd_ne (ne_of_none hb hl), upd_ne (ne_of_none (e1 _ _ hb) hp)]
          exact e1 _ _ hb
        · rw [upd_same, List.map_append]
          rfl
        · exact TokL.snoc (by rw [upd_ne (Ne.symm hlp), upd_same] <;> rfl) (TokL.upd (by rw [upd_ne hlp]; exact hl1) (tk.mono (same_new hp)))
        · rw [sc, List.append_assoc]
          rfl
    · have hjl : x.cps.toList.length ≤ j := by rw [← str_len]; omega
      have en : scan x (m + 1) j = ([], x.cps.toList.length) := by
        rw [scan, List.getElem?_eq_none hjl]
      rw [en] at sc
      rw [sc, List.append_nil] at k
      walk_at "go"
      refine ⟨str_fits hx, ?_⟩
      walk_at "go"
      rw [← str_len] at k
      exact ⟨by show 2 ≤ sizeLine; decide, fun p hp => k p l as _ (e1.trans (same_new hp)) hl upd_same (by rw [upd_ne (ne_of_none hl1 hp)]; exact hl1) (tk.mono (same_new hp))⟩
/-- the whole of a source: its tokens, and where they stop -/
def lexed (x : Str) : List (Str × Str × Nat) × Nat := scan x (x.cps.toList.length + 1) (nextAt x.cps.toList 0)
def spTokens (K : PySem.W.Frag) : Sp := fun vs H Q E => ∃ x : Str, vs = [.str x] ∧ x.cps.toList.length ≤ 100000 ∧
  ((lexed x).2 < x.cps.toList.length → ∀ d H', Same H H' → H d = none → H' d = some (.xd [("at", .int (((lexed x).2 : Nat) : Int))]) → E (.ref (He.ga K "BadText")) (some d) H') ∧
  (¬ (lexed x).2 < x.cps.toList.length → ∀ l as H', Same H H' → H l = none → H' l = some (.lst (as.map V.ref)) → TokL H' as (lexed x).1 → Q (.ref l) H')
theorem ok_tokens (T : Top w K mg) : FnOk P w K mg base (L2.CX P w) 6 (He.ga K ("tokens" : Str)) (fdOf K d_tokens) ["source"] (spTokens K) := by
  refine (T.f_tokens).ok sc_tokens (fun vs H Q E h => ?_) (fun cdv A outer s H vs Q E hr h => ?_)
  · obtain ⟨x, rfl, _⟩ := h
    rfl
  · obtain ⟨x, rfl, hx, kb, kg⟩ := h
    refine ⟨_, (pss_cons (ps_asg (pe_call (ok_tokens_until (K := K) T) (hr.mono (by decide)) rfl T.g_tokens_until T.f_tokens_until.kp T.b_tokens_until .nil pass0 (pa_cons (pv 0) pa_nil)) (pg_tup (by rfl) (pgs_cons (pg_name (i := 1) sc_tokens.nd rfl (Or.inl rfl)) (pgs_cons (pg_name (i := 2) sc_tokens.nd rfl (Or.inl rfl)) pgs_nil))))
    (pss_cons (ps_if (pt_cmpR op_lt (pv 2) (pe_callB call_len_str (by rfl) T.n_len PySem.boot_len (pa_cons (pv 0) pa_nil)) (nomark _))
    (pss_one (ps_raise rfl (takes_of rfl rfl rfl rfl) (pmk_oex (oexB_ok T.x_oex_BadText).1 (oexB_ok T.x_oex_BadText).2.1 (oexB_ok T.x_oex_BadText).2.2 (ok_BadText___init__ (K := K) T) (hr.mono (by decide)) T.b_BadText___init__ .nil pass0 rfl T.g_BadText (pa_cons (pv 2) pa_nil))))
    pss_nil)
    (pss_one (ps_ret (pv 1))))), ?_⟩
    walk_at "go"
    intro p l as H' e1 hl hp hl1 tk
    change H' p = some (HO.tup [V.ref l, V.int (((lexed x).2 : Nat) : Int)]) at hp
    change TokL H' as (lexed x).1 at tk
    refine ⟨p, _, rfl, SqT.of hp, rfl, ?_⟩
    walk_at "go"
    refine ⟨str_fits hx, ?_⟩
    walk_at "go"
    have el : x.length = x.cps.toList.length := str_len x
    refine ite_d (fun c => ?_) (fun c => ?_)
    · have c' : (lexed x).2 < x.cps.toList.length := by omega
      refine r_raiseE (C := He.ga K "BadText") (f := "at") (ok := okIx) ?_ (fun P P' h t => by
        obtain ⟨v, e, t⟩ := t
        exact ⟨v, e, h _ _ t⟩)
      have small : ((((lexed x).2 : Nat) : Int)).natAbs.log2 < 1920 := by
        have h : (((lexed x).2 : Nat) : Int).natAbs < 2 ^ 20 := by omega
        exact Nat.lt_of_lt_of_le (PySem.Flt.log2_lt_of (by decide) h) (by decide)
      walk_at "go"
      exact ⟨⟨_, rfl, small⟩, fun d hd => kb c' d _ (e1.trans (same_new hd)) (e1.free hd) upd_same⟩
    · walk_at "go"
      exact kg (by omega) l as H' e1 hl hl1 tk
end
/-! ### the law's own helpers: the stream -/
def spStream (K : PySem.W.Frag) : Sp := fun vs H Q _ => ∃ (a : Addr) (ns : List Int), vs = [.ref a] ∧ SqL K H a (ns.map V.int) ∧ ns.length ≤ 63 ∧ ∀ s H', Same H H' → Strm H' s → Q (.ref s) H'
def spDraw : Sp := fun vs H Q _ => ∃ (s : Addr) (n : Int), vs = [.ref s, .int n] ∧ Strm H s ∧ 0 < n ∧ n < 18446744073709551616 ∧ ∀ v, 0 ≤ v → v < n → Q (.int v) H
section
variable {P : Program} {w : World} {K : PySem.W.Frag} {mg : Str → Option Value} {base : Heap}
theorem small31 {i : Int} (h0 : 0 ≤ i) (h : i < 2147483648) : i.natAbs < 2 ^ 31 := by omega
theorem mulW31 {i j : Int} (h0 : 0 ≤ i) (h : i < 2147483648) (h2 : 0 ≤ j) (h3 : j < 2147483648) : CMulW i j := wide_mul (a := 31) (b := 31) (by omega) (by omega) (by decide) (by decide) (by decide)
theorem item_int {ns : List Int} {i : Nat} {x : V} (h : (ns.map V.int)[i]? = some x) : ∃ z, ns[i]? = some z ∧ x = .int z := by
  rw [List.getElem?_map] at h
  cases e : ns[i]? with
  | none => rw [e] at h; cases h
  | some z => rw [e] at h; exact ⟨z, rfl, (Option.some.inj h).symm⟩
theorem atI_ints {ns : List Int} {j : Int} (h0 : 0 ≤ j) (h : j < ((ns.map V.int).length : Int)) : ∃ z, atI (ns.map V.int) j = some (.int z) := by
  rw [List.length_map] at h
  have hk : j.toNat < ns.length := by omega
  have e : j = ((j.toNat : Nat) : Int) := by omega
  refine ⟨ns[j.toNat], ?_⟩
  have q : atI (ns.map V.int) ((j.toNat : Nat) : Int) = some (.int ns[j.toNat]) := atI_nat (by rw [List.getElem?_map, List.getElem?_eq_getElem hk] <;> rfl)
  rw [← e] at q
  exact q
theorem ok__law_draw (T : Top w K mg) : FnOk P w K mg base CX0 1 (He.ga K ("_law_draw" : Str)) (fdOf K d__law_draw) ["stream", "many"] spDraw := by
  refine (T.f__law_draw).ok sc__law_draw (fun vs H Q E h => ?_) (fun cdv A outer s H vs Q E hr h => ?_)
  · obtain ⟨a, n, rfl, _⟩ := h
    rfl
  · obtain ⟨s0, n, rfl, ⟨l, ns, hs, hl, h63⟩, h0, h1, k⟩ := h
    refine ⟨_, PSs.nox (pss_open s0 l (C8.pss_cut (ps_if (PW.pt (pw_and (pt_cmpR op_eq (pe_ix (ix_listK (K := K) rfl) (pv 0) pe_int (fun _ _ => rfl)) pe_int (nomark _)) (pw_and1 (pt_cmpR op_lt (pe_ix (ix_listK (K := K) rfl) (pv 0) pe_int (fun _ _ => rfl)) (pe_callB (call_lenK (K := K) rfl) (by rfl) T.n_len PySem.boot_len (pa_cons (pe_ix (ix_listK (K := K) rfl) (pv 0) pe_int (fun _ _ => rfl)) pa_nil)) (nomark _)))))
    (pss_cons (ps_asg (pe_callB call_abs (by rfl) T.n_abs (by decide +kernel) (pa_cons (pe_callTy call_int1 (by rfl) T.n_int (by decide +kernel) (pa_cons (pe_ix (ix_listK (K := K) rfl) (pe_ix (ix_listK (K := K) rfl) (pv 0) pe_int (fun _ _ => rfl)) (pe_ix (ix_listK (K := K) rfl) (pv 0) pe_int (fun _ _ => rfl)) (fun _ _ => rfl)) pa_nil)) pa_nil)) (pg_sub (pv 0) pe_int set_list))
    (pss_one (ps_asg (pe_op op_add (pe_ix (ix_listK (K := K) rfl) (pv 0) pe_int (fun _ _ => rfl)) pe_int) (pg_sub (pv 0) pe_int set_list))))
    pss_nil)
    (pss_cons (ps_if (pt_cmpR op_eq (pe_ix (ix_listK (K := K) rfl) (pv 0) pe_int (fun _ _ => rfl)) pe_int (nomark _))
    (pss_cons (ps_asg (pe_op op_mod (pe_callTy call_int1 (by rfl) T.n_int (by decide +kernel) (pa_cons (pe_op op_add (pe_op op_mulW (pe_ix (ix_listK (K := K) rfl) (pv 0) pe_int (fun _ _ => rfl)) pe_int) pe_int) pa_nil)) pe_int) (pg_sub (pv 0) pe_int set_list))
    (pss_one (ps_ret (pe_op op_mod (pe_callTy call_int1 (by rfl) T.n_int (by decide +kernel) (pa_cons (pe_op op_fdivG (pe_ix (ix_listK (K := K) rfl) (pv 0) pe_int (fun _ _ => rfl)) pe_int) pa_nil)) (pv 1)))))
    pss_nil)
    (pss_cons (ps_set (i := 2) sc__law_draw.nd rfl (Or.inl rfl) (pe_op op_mod (pe_callTy call_int1 (by rfl) T.n_int (by decide +kernel) (pa_cons (pe_ix (ix_listK (K := K) rfl) (pv 0) pe_int (fun _ _ => rfl)) pa_nil)) (pv 1)))
    (pss_cons (ps_asg (pe_op op_fdivG (pe_ix (ix_listK (K := K) rfl) (pv 0) pe_int (fun _ _ => rfl)) (pv 1)) (pg_sub (pv 0) pe_int set_list))
    (pss_one (ps_ret (pv 2)))))))), ?_⟩
    refine r_open hs (fun i j m hj => ?_)
    have hls : l ≠ s0 := ne_of hl hs (by intro z; cases z)
    refine r_cut (fun σ H' => σ = [some (.ref s0), some (.int n), none] ∧ ∃ i j, okS j m ∧ H' = upd H s0 (.lst (cellsV l i j m))) ?_ ?_
    · have hl' : ∀ o, SqL K (upd H s0 o) l (ns.map V.int) := fun o => SqL.of (by rw [upd_ne hls]; exact hl)
      walk_at "go"
      refine ite_d (fun c1 => ?_) (fun c1 => ?_)
      · walk_at "go"
        refine ⟨_, _, rfl, .inl (hl' _), ?_⟩
        walk_at "go"
        refine ite_d (fun c2 => ?_) (fun c2 => ?_)
        · obtain ⟨z, hz⟩ := atI_ints hj.1 c2
          walk_at "go"
          refine r_ixL (hl' _) hz ?_
          walk_at "go"
          exact ⟨rfl, _, j + 1, ⟨by have := hj.1; omega, hj.2⟩, by rw [upd_upd, upd_upd] <;> rfl⟩
        · walk_at "go"
          exact ⟨rfl, i, j, hj, rfl⟩
      · walk_at "go"
        exact ⟨rfl, i, j, hj, rfl⟩
    · rintro σ H' ⟨rfl, i, j, hj, rfl⟩
      walk_at "go"
      refine ite_d (fun c1 => ?_) (fun c1 => ?_)
      · walk_at "go"
        refine ⟨mulW31 hj.2.1 hj.2.2 (by decide) (by decide), ?_⟩
        walk_at "go"
        refine ⟨cdivG (b := 64) (by omega) (by omega) (by decide) (by decide), ?_⟩
        walk_at "go"
        refine ⟨i, j, (m * 48271 + 11) % 2147483647, upd_same, ⟨hj.1, by omega, by omega⟩, ?_⟩
        rw [upd_back2 hs]
        exact k _ (Int.emod_nonneg _ (by omega)) (Int.emod_lt_of_pos _ h0)
      · walk_at "go"
        refine ⟨cdivG (b := 64) (by omega) (by omega) (by decide) (by decide), ?_⟩
        walk_at "go"
        refine ⟨i.fdiv n, j, m, upd_same, hj, ?_⟩
        rw [upd_back2 hs]
        exact k _ (Int.emod_nonneg _ (by omega)) (Int.emod_lt_of_pos _ h0)
/-- a draw: any number below -/
theorem draw_at {s : Addr} {n : Int} {H : Hp} {Q : VK} {E : XK} (hS : Strm H s) (h0 : 0 < n) (h1 : n < 18446744073709551616) (k : ∀ v, 0 ≤ v → v < n → Q (.int v) H) : spDraw [.ref s, .int n] H Q E := ⟨s, n, rfl, hS, h0, h1, k⟩
theorem ok__law_stream (T : Top w K mg) : FnOk P w K mg base CX0 1 (He.ga K ("_law_stream" : Str)) (fdOf K d__law_stream) ["script"] (spStream K) := by
  refine (T.f__law_stream).ok sc__law_stream (fun vs H Q E h => ?_) (fun cdv A outer s H vs Q E hr h => ?_)
  · obtain ⟨a, n, rfl, _⟩ := h
    rfl
  · obtain ⟨a, ns, rfl, hS, h63, k⟩ := h
    refine ⟨_, PSs.nox (pss_shut (pss_cons (ps_set (i := 1) sc__law_stream.nd rfl (Or.inl rfl) pe_int)
    (pss_cons (ps_for PassesOwn.never rfl (pi_listK (K := K) rfl (pv 0)) (pg_name (i := 2) sc__law_stream.nd rfl (Or.inl rfl))
    (pss_one (ps_set (i := 1) sc__law_stream.nd rfl (Or.inl rfl) (pe_op op_mod (pe_callTy call_int1 (by rfl) T.n_int (by decide +kernel) (pa_cons (pe_op op_add (pe_op op_add (pe_op op_mulW (pv 1) pe_int) (pe_op op_mod (pe_callTy call_int1 (by rfl) T.n_int (by decide +kernel) (pa_cons (pv 2) pa_nil)) pe_int)) pe_int) pa_nil)) pe_int))))
    (pss_one (ps_ret (pe_lst (pa_cons (pe_callTy (call_listK (K := K) rfl) (by rfl) T.n_list (by decide +kernel) (pa_cons (pv 0) pa_nil)) (pa_cons pe_int (pa_cons pe_int (pa_cons (pv 1) pa_nil)))))))))), ?_⟩
    refine r_shut ?_
    walk_at "go"
    refine ⟨⟨_, hS⟩, for_lst (xs := ns.map V.int) (fun i σ H' => H' = H ∧ ∃ (m : Int) (v : Option V), σ = [some (.ref a), some (.int m), v] ∧ 0 ≤ m ∧ m < 2147483648) ⟨rfl, 17, none, rfl, by omega, by omega⟩ (fun i σ H' _ h => by rw [h.1]; exact hS) ?_ ?_⟩
    · rintro i x σ H' hx ⟨rfl, m, v, rfl, h0, h1⟩
      obtain ⟨z, hz, rfl⟩ := item_int hx
      walk_at "go"
      refine ⟨mulW31 h0 h1 (by decide) (by decide), ?_⟩
      walk_at "go"
      exact ⟨rfl, _, _, rfl, Int.emod_nonneg _ (by omega), by show _ % (2147483647 : Int) < _; omega⟩
    · rintro σ H' ⟨rfl, m, v, rfl, h0, h1⟩
      walk_at "go"
      refine ⟨_, _, rfl, .inl hS, fun l hl => ?_⟩
      walk_at "go"
      refine ⟨by show 4 ≤ sizeLine; decide, fun p hp => ?_⟩
      have hlp : l ≠ p := ne_of_none upd_same hp
      have s1 : Same H' (upd H' l (.lst (ns.map V.int))) := same_new hl
      have hp0 : H' p = none := s1.free hp
      refine ⟨p, l, 0, 0, m, rfl, upd_same, ⟨by omega, h0, h1⟩, k p _ (fun b o e => ?_) ⟨l, ns, upd_same, by rw [upd_ne hlp, upd_ne hlp, upd_same], h63⟩⟩
      rw [upd_ne (ne_of_none e hp0), upd_ne (ne_of_none e hp0)]
      exact s1 b o e
end
section
/-- an item of a list of texts by a draw -/
theorem atI_strs {xs : List Str} {v : Int} (h0 : 0 ≤ v) (h1 : v < (xs.length : Int)) : ∃ y, y ∈ xs ∧ atI (xs.map V.str) v = some (.str y) := by
  have hk : v.toNat < xs.length := by omega
  have e : v = ((v.toNat : Nat) : Int) := by omega
  refine ⟨xs[v.toNat], List.getElem_mem hk, ?_⟩
  have q : atI (xs.map V.str) ((v.toNat : Nat) : Int) = some (.str xs[v.toNat]) := atI_nat (by rw [List.getElem?_map, List.getElem?_eq_getElem hk] <;> rfl)
  rw [← e] at q
  exact q
theorem atI_sign {x : Str} {v : Int} (h0 : 0 ≤ v) (h1 : v < (x.cps.toList.length : Int)) : ∃ c, c ∈ x.cps.toList ∧ atI x.cps.toList v = some c := by
  have hk : v.toNat < x.cps.toList.length := by omega
  have e : v = ((v.toNat : Nat) : Int) := by omega
  refine ⟨x.cps.toList[v.toNat], List.getElem_mem hk, ?_⟩
  have q : atI x.cps.toList ((v.toNat : Nat) : Int) = some x.cps.toList[v.toNat] := atI_nat (List.getElem?_eq_getElem hk)
  rw [← e] at q
  exact q
theorem cutS_le (x : Str) (a b : Option Int) : (cutS x a b).cps.toList.length ≤ x.cps.toList.length := by
  unfold cutS
  rw [List.length_take, List.length_drop]
  omega
/-- texts of Python's own signs -/
theorem sok_iff (x : Str) : PyData.strOk x = true ↔ ∀ c ∈ x.cps.toList, c < 0x110000 := by
  unfold PyData.strOk
  rw [← Array.all_toList, List.all_eq_true]
  simp only [decide_eq_true_eq]
theorem sok_cut {x : Str} (h : PyData.strOk x = true) (a b : Option Int) : PyData.strOk (cutS x a b) = true := by
  rw [sok_iff] at h ⊢
  intro c hc
  unfold cutS at hc
  exact h c (List.mem_of_mem_drop (List.mem_of_mem_take hc))
theorem sok_app {x y : Str} (h : PyData.strOk x = true) (g : PyData.strOk y = true) : PyData.strOk (x ++ y) = true := by
  rw [sok_iff] at h g ⊢
  rw [Str.cps_append, Array.toList_append]
  intro c hc
  rcases List.mem_append.mp hc with hc | hc
  · exact h c hc
  · exact g c hc
theorem sok_sign {x : Str} {c : Nat} (h : PyData.strOk x = true) (hc : c ∈ x.cps.toList) : PyData.strOk ⟨#[c]⟩ = true := by
  rw [sok_iff] at h ⊢
  intro d hd
  have : d = c := by simpa using hd
  rw [this]
  exact h c hc
end
section
def signsF (s : Str) : Nat → Bool := fun c => decide (c ∈ s.cps.toList)
theorem digits_isD : signsF "0123456789" = isD := by
  funext c
  unfold signsF isD
  rw [show (Str.ofString "0123456789").cps.toList = [48, 49, 50, 51, 52, 53, 54, 55, 56, 57] from by decide +kernel]
  rw [Bool.eq_iff_iff, decide_eq_true_eq, Bool.and_eq_true, decide_eq_true_eq, decide_eq_true_eq]
  simp only [List.mem_cons, List.not_mem_nil, or_false]
  omega
theorem inV_strs (c : Str) (l : List Str) : inV (.str c) (l.map V.str) = decide (c ∈ l) := by
  induction l with
  | nil => rfl
  | cons y l ih =>
    show (eqV (V.str y) (V.str c) || inV (.str c) (l.map V.str)) = _
    rw [ih]
    show ((y == c) || _) = _
    rw [Bool.eq_iff_iff, Bool.or_eq_true, beq_iff_eq, decide_eq_true_eq, decide_eq_true_eq, List.mem_cons]
    exact ⟨fun h => h.imp Eq.symm id, fun h => h.imp Eq.symm id⟩
theorem piece_one {x : Str} {i c : Nat} (h : x.cps.toList[i]? = some c) : piece x i (i + 1) = ⟨#[c]⟩ := by
  obtain ⟨hi, hc⟩ := List.getElem?_eq_some_iff.mp h
  have hl := str_len x
  unfold piece cutS
  rw [HT.sIx_nat, HT.sIx_nat, Nat.min_eq_left (show i ≤ x.length from by omega), Nat.min_eq_left (show i + 1 ≤ x.length from by omega), List.drop_eq_getElem_cons hi, hc]
  rw [show i + 1 - i = 0 + 1 from by omega, List.take_succ_cons]
  rfl
theorem piece_two (x : Str) (i : Nat) : piece x i (i + 2) = cutS x (some (i : Int)) (some ((i : Int) + 2)) := rfl
theorem long_len {y : Str} (h : y ∈ longL) : y.length = 2 := by
  unfold longL at h
  simp only [List.mem_cons, List.not_mem_nil, or_false] at h
  rcases h with h | h | h | h <;> (rw [h]; decide +kernel)
theorem scan_some {x : Str} {m i c : Nat} (hc : x.cps.toList[i]? = some c) : scan x (m + 1) i = if tokEnd x i c = i then ([], i) else ((kindOf (piece x i (tokEnd x i c)) c, piece x i (tokEnd x i c), i) :: (scan x m (nextAt x.cps.toList (tokEnd x i c))).1, (scan x m (nextAt x.cps.toList (tokEnd x i c))).2) := by
  rw [scan, hc]
theorem scan_none {x : Str} {m i : Nat} (h : x.cps.toList.length ≤ i) : scan x (m + 1) i = ([], x.cps.toList.length) := by
  rw [scan, List.getElem?_eq_none h]
def spKeys : Sp := fun vs H Q _ => vs = [] ∧ ∀ l H', Same H H' → H l = none → H' l = some (.lst (keyL.map V.str)) → Q (.ref l) H'
theorem keys_split : Txt.split ((Str.ofString "and connect connector der discrete else end equation extends false flow for if in initial input loop") ++ (Str.ofString " model not or parameter pre reset sample size sum then time true when")) (Str.ofString " ") = keyL := by decide +kernel
def letS : Str := "abcdefghijklmnopqrstuvwxyzABCDEFGHIJKLMNOPQRSTUVWXYZ"
theorem letS_cps : letS.cps.toList = (List.range 26).map (· + 97) ++ (List.range 26).map (· + 65) := by decide +kernel
theorem let_isL (c : Nat) : c ∈ letS.cps.toList ↔ isL c = true := by
  rw [letS_cps]
  unfold isL
  simp only [List.mem_append, List.mem_map, List.mem_range, Bool.or_eq_true, Bool.and_eq_true, decide_eq_true_eq]
  constructor
  · rintro (⟨a, h, rfl⟩ | ⟨a, h, rfl⟩)
    · exact .inl ⟨by omega, by omega⟩
    · exact .inr ⟨by omega, by omega⟩
  · rintro (h | h)
    · exact .inl ⟨c - 97, by omega, by omega⟩
    · exact .inr ⟨c - 65, by omega, by omega⟩
theorem dig_isD (c : Nat) : c ∈ (Str.ofString "0123456789").cps.toList ↔ isD c = true := by
  rw [← digits_isD]
  exact (decide_eq_true_iff).symm
theorem let_isW : signsF (letS ++ Str.ofString "0123456789_") = isW := by
  funext c
  unfold signsF isW
  rw [Str.cps_append, Array.toList_append, Bool.eq_iff_iff, decide_eq_true_eq, List.mem_append, let_isL]
  rw [show (Str.ofString "0123456789_").cps.toList = (Str.ofString "0123456789").cps.toList ++ [95] from by decide +kernel, List.mem_append, dig_isD, List.mem_singleton]
  rw [Bool.or_eq_true, Bool.or_eq_true, decide_eq_true_eq, or_assoc]
theorem cut_two (x : Str) (i a b : Nat) {s : Str} (e : s = ⟨#[a, b]⟩) : cutS x (some (i : Int)) (some ((i : Int) + 2)) = s ↔ x.cps.toList[i]? = some a ∧ x.cps.toList[i + 1]? = some b := by
  subst e
  have el := str_len x
  have u : cutS x (some (i : Int)) (some ((i : Int) + 2)) = piece x i (i + 2) := rfl
  rw [u]
  unfold piece cutS
  rw [HT.sIx_nat, HT.sIx_nat]
  have e0 : x.cps.toList[i]? = (x.cps.toList.drop i)[0]? := by rw [List.getElem?_drop]; rfl
  have e1 : x.cps.toList[i + 1]? = (x.cps.toList.drop i)[1]? := by rw [List.getElem?_drop]
  have k : ∀ l : List Nat, ((⟨l.toArray⟩ : Str) = ⟨#[a, b]⟩) ↔ l = [a, b] := by
    intro l
    constructor
    · intro h
      have h2 := congrArg (fun z : Str => z.cps.toList) h
      simpa using h2
    · intro h
      rw [h]
  rw [e0, e1, k]
  by_cases hi : i ≤ x.length
  · rw [Nat.min_eq_left hi]
    have ld : (x.cps.toList.drop i).length = x.length - i := by rw [List.length_drop, el]
    generalize x.cps.toList.drop i = l at *
    have q : min (i + 2) x.length - i = min 2 l.length := by omega
    rw [q]
    match l with
    | [] => simp
    | [p] => simp
    | p :: q :: r => simp [List.take_succ_cons]
  · have ld : x.cps.toList.drop i = [] := List.drop_eq_nil_of_le (by omega)
    rw [ld, Nat.min_eq_right (by omega)]
    rw [List.drop_eq_nil_of_le (by omega)]
    simp
theorem piece_length {x : Str} {i e : Nat} (h1 : i ≤ e) (h2 : e ≤ x.cps.toList.length) : (piece x i e).length = e - i := by
  have el := str_len x
  unfold piece cutS
  rw [HT.sIx_nat, HT.sIx_nat, str_len]
  rw [Nat.min_eq_left (show i ≤ x.length by omega), Nat.min_eq_left (show e ≤ x.length by omega)]
  show ((x.cps.toList.drop i).take (e - i)).length = _
  rw [List.length_take, List.length_drop]
  omega
theorem TokL.len {H : Hp} : ∀ {l : List Addr} {ts : List (Str × Str × Nat)}, TokL H l ts → l.length = ts.length
  | [], [], .nil => rfl
  | _ :: _, _ :: _, .cons _ h => congrArg (· + 1) (TokL.len h)
end
section
/-! ### a text that is put together of tokens and gaps is cut into them -/
/-- no sign of f begins it -/
def Stops (f : Nat → Bool) (S : List Nat) : Prop := ∀ c, S.head? = some c → f c = false
theorem runEnd_app {f : Nat → Bool} {P Y S : List Nat} (h : Y.all f = true) (s : Stops f S) : runEnd f (P ++ (Y ++ S)) P.length = P.length + Y.length := by
  unfold runEnd
  rw [List.drop_left, List.takeWhile_append_of_pos (fun c hc => List.all_eq_true.mp h c hc)]
  have e : S.takeWhile f = [] := by
    cases S with
    | nil => rfl
    | cons c r => rw [List.takeWhile_cons, s c rfl]; rfl
  rw [e, List.append_nil]
theorem get_app {P Y S : List Nat} {k : Nat} : (P ++ (Y ++ S))[P.length + k]? = (Y ++ S)[k]? := by
  rw [List.getElem?_append_right (Nat.le_add_right _ _), Nat.add_sub_cancel_left]
theorem get_app0 {P R : List Nat} : (P ++ R)[P.length]? = R[0]? := by
  rw [List.getElem?_append_right (Nat.le_refl _), Nat.sub_self]
theorem get_app1 {P R : List Nat} : (P ++ R)[P.length + 1]? = R[1]? := by
  rw [List.getElem?_append_right (Nat.le_add_right _ _), Nat.add_sub_cancel_left]
/-- spaces, line feeds, remarks up to a line feed -/
inductive Gap : List Nat → Prop
  | nil : Gap []
  | sp {c : Nat} {G : List Nat} : (c = 32 ∨ c = 10) → Gap G → Gap (c :: G)
  | rm {R G : List Nat} : R.all (fun c => decide (c ≠ 10)) = true → Gap (10 :: G) → Gap (47 :: 47 :: (R ++ 10 :: G))
/-- no gap begins it -/
def NoGap (R : List Nat) : Prop := ¬ (R[0]? = some 32 ∨ R[0]? = some 10) ∧ ¬ (R[0]? = some 47 ∧ R[1]? = some 47)
theorem nextAt_gap {G : List Nat} (g : Gap G) : ∀ {P R : List Nat}, NoGap R → nextAt (P ++ (G ++ R)) P.length = P.length + G.length := by
  induction g with
  | nil =>
    intro P R h
    show nextAt (P ++ R) P.length = P.length
    exact nextAt_stop (by rw [get_app0, get_app1]; exact h.2) (by rw [get_app0]; exact h.1)
  | @sp c G hc g ih =>
    intro P R h
    have e0 : (P ++ (c :: G ++ R))[P.length]? = some c := by rw [get_app0]; rfl
    rw [nextAt_space (by rw [e0]; exact hc.imp (congrArg some) (congrArg some))]
    have e : P ++ (c :: G ++ R) = (P ++ [c]) ++ (G ++ R) := by simp
    have q := ih (P := P ++ [c]) h
    rw [← e, List.length_append, List.length_singleton] at q
    rw [q, List.length_cons]
    omega
  | @rm R0 G hR g ih =>
    intro P R h
    have e0 : (P ++ (47 :: 47 :: (R0 ++ 10 :: G) ++ R))[P.length]? = some 47 := by rw [get_app0]; rfl
    have e1 : (P ++ (47 :: 47 :: (R0 ++ 10 :: G) ++ R))[P.length + 1]? = some 47 := by rw [get_app1]; rfl
    rw [nextAt_remark ⟨e0, e1⟩]
    have e : P ++ (47 :: 47 :: (R0 ++ 10 :: G) ++ R) = P ++ ((47 :: 47 :: R0) ++ (10 :: (G ++ R))) := by simp
    have f : feedAt (P ++ (47 :: 47 :: (R0 ++ 10 :: G) ++ R)) P.length = P.length + (47 :: 47 :: R0).length := by
      rw [e]
      refine runEnd_app (f := fun c => decide (c ≠ 10)) ?_ ?_
      · rw [List.all_cons, List.all_cons, hR]
        rfl
      · intro c hc
        cases hc
        rfl
    rw [f]
    have e2 : P ++ (47 :: 47 :: (R0 ++ 10 :: G) ++ R) = (P ++ (47 :: 47 :: R0)) ++ ((10 :: G) ++ R) := by simp
    have q := ih (P := P ++ (47 :: 47 :: R0)) h
    rw [← e2, List.length_append] at q
    rw [q]
    simp only [List.length_cons, List.length_append]
    omega
/-- scanning with room enough -/
theorem scan_fuel (x : Str) : ∀ (n m i : Nat), x.cps.toList.length - i < n → x.cps.toList.length - i < m → scan x n i = scan x m i := by
  intro n
  induction n with
  | zero => intro m i h; omega
  | succ n ih =>
    intro m i hn hm
    obtain ⟨m, rfl⟩ : ∃ m', m = m' + 1 := ⟨m - 1, by omega⟩
    cases hc : x.cps.toList[i]? with
    | none => rw [scan_none (List.getElem?_eq_none_iff.mp hc), scan_none (List.getElem?_eq_none_iff.mp hc)]
    | some c =>
      have hi := (List.getElem?_eq_some_iff.mp hc).1
      rw [scan_some hc, scan_some hc]
      by_cases e : tokEnd x i c = i
      · rw [if_pos e, if_pos e]
      · have l1 := le_tokEnd x i c
        have l2 := le_nextAt x.cps.toList _ (tokEnd x i c) (Nat.le_refl _)
        rw [if_neg e, if_neg e, ih m _ (by omega) (by omega)]
def from_ (x : Str) (i : Nat) : List (Str × Str × Nat) × Nat := scan x (x.cps.toList.length + 1) i
theorem from_step {x : Str} {i c : Nat} (hc : x.cps.toList[i]? = some c) (e : ¬ tokEnd x i c = i) : from_ x i = ((kindOf (piece x i (tokEnd x i c)) c, piece x i (tokEnd x i c), i) :: (from_ x (nextAt x.cps.toList (tokEnd x i c))).1, (from_ x (nextAt x.cps.toList (tokEnd x i c))).2) := by
  have hi := (List.getElem?_eq_some_iff.mp hc).1
  have l1 := le_tokEnd x i c
  have l2 := le_nextAt x.cps.toList _ (tokEnd x i c) (Nat.le_refl _)
  unfold from_
  rw [scan_some hc, if_neg e, scan_fuel x x.cps.toList.length (x.cps.toList.length + 1) _ (by omega) (by omega)]
theorem from_end {x : Str} {i : Nat} (h : x.cps.toList.length ≤ i) : from_ x i = ([], x.cps.toList.length) := scan_none h
/-- two signs that are one symbol, or begin a remark -/
def Bad2 (c d : Nat) : Prop := (c = 61 ∧ d = 61) ∨ (c = 60 ∧ d = 61) ∨ (c = 62 ∧ d = 61) ∨ (c = 60 ∧ d = 62) ∨ (c = 47 ∧ d = 47)
/-- what may stand behind a token -/
def Fits (k : Str) (Y S : List Nat) : Prop :=
  if k = "symbol" then ∀ c d, Y = [c] → S.head? = some d → ¬ Bad2 c d
  else if k = "number" then ∀ d, S.head? = some d → isD d = false ∧ d ≠ 46
  else ∀ d, S.head? = some d → isW d = false
inductive Tok : Str → Str → Prop
  | word {y : Str} {c : Nat} {r : List Nat} : y.cps.toList = c :: r → isL c = true → r.all isW = true → r.length ≤ 19 → Tok (kindOf y c) y
  | nat {y : Str} {ds : List Nat} : y.cps.toList = ds → ds.all isD = true → 1 ≤ ds.length → ds.length ≤ 15 → Tok "number" y
  | dec {y : Str} {ds es : List Nat} : y.cps.toList = ds ++ 46 :: es → ds.all isD = true → es.all isD = true → 1 ≤ ds.length → ds.length ≤ 15 → 1 ≤ es.length → es.length ≤ 15 → Tok "number" y
  | one {y : Str} {c : Nat} : y.cps.toList = [c] → c ∈ symL.cps.toList → Tok "symbol" y
  | two {y : Str} : y ∈ longL → Tok "symbol" y
end
section
theorem piece_mid {x y : Str} {P S : List Nat} (hx : x.cps.toList = P ++ (y.cps.toList ++ S)) : piece x P.length (P.length + y.length) = y := by
  have el := str_len x
  have ey := str_len y
  have lx : x.cps.toList.length = P.length + (y.cps.toList.length + S.length) := by rw [hx, List.length_append, List.length_append]
  unfold piece cutS
  rw [HT.sIx_nat, HT.sIx_nat, Nat.min_eq_left (show P.length ≤ x.length by omega), Nat.min_eq_left (show P.length + y.length ≤ x.length by omega), hx, List.drop_left, Nat.add_sub_cancel_left, ey, List.take_left]
theorem long_codes {y : Str} (h : y ∈ longL) : y.cps.toList = [61, 61] ∨ y.cps.toList = [60, 61] ∨ y.cps.toList = [62, 61] ∨ y.cps.toList = [60, 62] := by
  unfold longL at h
  simp only [List.mem_cons, List.not_mem_nil, or_false] at h
  rcases h with h | h | h | h
  · exact .inl (by rw [h]; decide +kernel)
  · exact .inr (.inl (by rw [h]; decide +kernel))
  · exact .inr (.inr (.inl (by rw [h]; decide +kernel)))
  · exact .inr (.inr (.inr (by rw [h]; decide +kernel)))
theorem long_iff (x : Str) (i : Nat) : longAt x i = true ↔ ∃ a b, x.cps.toList[i]? = some a ∧ x.cps.toList[i + 1]? = some b ∧ ((a = 61 ∧ b = 61) ∨ (a = 60 ∧ b = 61) ∨ (a = 62 ∧ b = 61) ∨ (a = 60 ∧ b = 62)) := by
  unfold longAt
  rw [inV_strs, decide_eq_true_eq]
  unfold longL
  simp only [List.mem_cons, List.not_mem_nil, or_false]
  rw [cut_two x i 61 61 (s := "==") (by decide +kernel), cut_two x i 60 61 (s := "<=") (by decide +kernel), cut_two x i 62 61 (s := ">=") (by decide +kernel), cut_two x i 60 62 (s := "<>") (by decide +kernel)]
  constructor
  · rintro (⟨h1, h2⟩ | ⟨h1, h2⟩ | ⟨h1, h2⟩ | ⟨h1, h2⟩)
    · exact ⟨61, 61, h1, h2, .inl ⟨rfl, rfl⟩⟩
    · exact ⟨60, 61, h1, h2, .inr (.inl ⟨rfl, rfl⟩)⟩
    · exact ⟨62, 61, h1, h2, .inr (.inr (.inl ⟨rfl, rfl⟩))⟩
    · exact ⟨60, 62, h1, h2, .inr (.inr (.inr ⟨rfl, rfl⟩))⟩
  · rintro ⟨a, b, h1, h2, h | h | h | h⟩
    · obtain ⟨rfl, rfl⟩ := h
      exact .inl ⟨h1, h2⟩
    · obtain ⟨rfl, rfl⟩ := h
      exact .inr (.inl ⟨h1, h2⟩)
    · obtain ⟨rfl, rfl⟩ := h
      exact .inr (.inr (.inl ⟨h1, h2⟩))
    · obtain ⟨rfl, rfl⟩ := h
      exact .inr (.inr (.inr ⟨h1, h2⟩))
theorem isD_L {c : Nat} (h : isD c = true) : isL c = false := by
  unfold isD at h
  unfold isL
  simp only [Bool.and_eq_true, decide_eq_true_eq] at h
  rw [Bool.eq_false_iff]
  simp only [ne_eq, Bool.or_eq_true, Bool.and_eq_true, decide_eq_true_eq]
  omega
theorem isL_W {c : Nat} (h : isL c = true) : isW c = true := by
  unfold isW
  rw [h]
  rfl
theorem isD_W {c : Nat} (h : isD c = true) : isW c = true := by
  unfold isW
  rw [h, Bool.or_true]
  rfl
theorem sym_codes : symL.cps.toList = [40, 41, 91, 93, 123, 125, 44, 59, 46, 61, 60, 62, 43, 45, 42, 47, 58] := by decide +kernel
theorem sym_not {c : Nat} (h : c ∈ symL.cps.toList) : isL c = false ∧ isD c = false ∧ isW c = false ∧ c ≠ 32 ∧ c ≠ 10 := by
  rw [sym_codes] at h
  simp only [List.mem_cons, List.not_mem_nil, or_false] at h
  rcases h with h | h | h | h | h | h | h | h | h | h | h | h | h | h | h | h | h <;> (rw [h]; decide)
theorem kind_L {y : Str} {c : Nat} (h : isL c = true) : kindOf y c = "key" ∨ kindOf y c = "word" := by
  unfold kindOf
  rw [if_pos h]
  split
  · exact .inl rfl
  · exact .inr rfl
theorem fits_L {y : Str} {c : Nat} {Y S : List Nat} (h : isL c = true) : Fits (kindOf y c) Y S ↔ ∀ d, S.head? = some d → isW d = false := by
  unfold Fits
  rcases kind_L (y := y) h with e | e
  · rw [e, if_neg (by decide +kernel), if_neg (by decide +kernel)]
  · rw [e, if_neg (by decide +kernel), if_neg (by decide +kernel)]
theorem fits_N {Y S : List Nat} : Fits "number" Y S ↔ ∀ d, S.head? = some d → isD d = false ∧ d ≠ 46 := by
  unfold Fits
  rw [if_neg (by decide +kernel), if_pos rfl]
theorem fits_S {Y S : List Nat} : Fits "symbol" Y S ↔ ∀ c d, Y = [c] → S.head? = some d → ¬ Bad2 c d := by
  unfold Fits
  rw [if_pos rfl]
theorem head_get {S : List Nat} : S.head? = S[0]? := by cases S <;> rfl
theorem numEnd_nat {P ds S : List Nat} (h : ds.all isD = true) (h15 : ds.length ≤ 15) (f : ∀ d, S.head? = some d → isD d = false ∧ d ≠ 46) : numEnd (P ++ (ds ++ S)) P.length = P.length + ds.length := by
  unfold numEnd
  have e := runEnd_app (f := isD) (P := P) (S := S) h (fun c hc => (f c hc).1)
  rw [e]
  have b : behind (P ++ (ds ++ S)) (P.length + ds.length) = P.length + ds.length := by
    refine if_neg fun t => ?_
    rw [get_app, List.getElem?_append_right (Nat.le_refl _), Nat.sub_self, ← head_get] at t
    exact (f 46 t).2 rfl
  have cu : cutAt (P.length + ds.length) (P.length + ds.length) = P.length + ds.length := if_pos (by omega)
  dsimp only
  rw [b, cu, if_neg (by omega)]
theorem numEnd_dec {P ds es S : List Nat} (h : ds.all isD = true) (g : es.all isD = true) (h15 : ds.length ≤ 15) (g1 : 1 ≤ es.length) (g15 : es.length ≤ 15) (f : ∀ d, S.head? = some d → isD d = false ∧ d ≠ 46) : numEnd (P ++ ((ds ++ 46 :: es) ++ S)) P.length = P.length + (ds ++ 46 :: es).length := by
  unfold numEnd
  have e0 : P ++ ((ds ++ 46 :: es) ++ S) = P ++ (ds ++ (46 :: (es ++ S))) := by simp
  have e := runEnd_app (f := isD) (P := P) (S := 46 :: (es ++ S)) h (fun c hc => by cases hc; rfl)
  rw [e0, e]
  have b : behind (P ++ (ds ++ (46 :: (es ++ S)))) (P.length + ds.length) = P.length + ds.length + 1 + es.length := by
    have e1 : (P ++ (ds ++ (46 :: (es ++ S))))[P.length + ds.length]? = some 46 := by
      rw [get_app, List.getElem?_append_right (Nat.le_refl _), Nat.sub_self]
      rfl
    have e2 : P ++ (ds ++ (46 :: (es ++ S))) = (P ++ (ds ++ [46])) ++ (es ++ S) := by simp
    have e3 := runEnd_app (f := isD) (P := P ++ (ds ++ [46])) (S := S) g (fun c hc => (f c hc).1)
    unfold behind
    rw [if_pos e1, e2]
    simp only [List.length_append, List.length_cons, List.length_nil] at e3
    have e4 : P.length + ds.length + 1 = P.length + (ds.length + (0 + 1)) := by omega
    rw [e4, e3]
  have cu : cutAt (P.length + ds.length) (P.length + ds.length + 1 + es.length) = P.length + ds.length + 1 + es.length := if_neg (by omega)
  dsimp only
  rw [b, cu, if_neg (by omega)]
  simp only [List.length_append, List.length_cons]
  omega
/-- a token in its place -/
theorem tok_step {x k y : Str} {P S : List Nat} (hx : x.cps.toList = P ++ (y.cps.toList ++ S)) (t : Tok k y) (f : Fits k y.cps.toList S) :
    NoGap (y.cps.toList ++ S) ∧ ∃ c, x.cps.toList[P.length]? = some c ∧ tokEnd x P.length c = P.length + y.length ∧ kindOf y c = k ∧ 0 < y.length := by
  have ey := str_len y
  have g0 : x.cps.toList[P.length]? = (y.cps.toList ++ S)[0]? := by rw [hx, get_app0]
  have g1 : x.cps.toList[P.length + 1]? = (y.cps.toList ++ S)[1]? := by rw [hx, get_app1]
  cases t with
  | @word y c r hy hc hr hl =>
    have f := (fits_L hc).mp f
    rw [hy] at g0 ey
    have g0 : x.cps.toList[P.length]? = some c := g0
    have ne : c ≠ 32 ∧ c ≠ 10 ∧ c ≠ 47 := by
      refine ⟨?_, ?_, ?_⟩ <;> (intro t; rw [t] at hc; exact absurd hc (by decide))
    refine ⟨⟨?_, ?_⟩, c, g0, ?_, rfl, by rw [ey]; exact Nat.succ_pos _⟩
    · rw [hy]
      rintro (t | t)
      · exact ne.1 (Option.some.inj t)
      · exact ne.2.1 (Option.some.inj t)
    · rw [hy]
      rintro ⟨t, _⟩
      exact ne.2.2 (Option.some.inj t)
    · have e := runEnd_app (f := isW) (P := P) (Y := c :: r) (S := S) (by rw [List.all_cons, isL_W hc, hr]; rfl) f
      unfold tokEnd
      rw [if_pos hc, hx, hy, e, ey, if_pos (by simp only [List.length_cons]; omega)]
  | @nat y ds hy h h1 h15 =>
    have f := fits_N.mp f
    subst hy
    cases hd : y.cps.toList with
    | nil => rw [hd] at h1; exact absurd h1 (by decide)
    | cons c r =>
      have g0 : x.cps.toList[P.length]? = some c := by rw [g0, hd]; rfl
      have hc : isD c = true := by rw [hd, List.all_cons, Bool.and_eq_true] at h; exact h.1
      have ne : c ≠ 32 ∧ c ≠ 10 ∧ c ≠ 47 := by
        refine ⟨?_, ?_, ?_⟩ <;> (intro t; rw [t] at hc; exact absurd hc (by decide))
      refine ⟨⟨?_, ?_⟩, c, g0, ?_, ?_, by omega⟩
      · rintro (t | t)
        · exact ne.1 (Option.some.inj t)
        · exact ne.2.1 (Option.some.inj t)
      · rintro ⟨t, _⟩
        exact ne.2.2 (Option.some.inj t)
      · unfold tokEnd
        rw [if_neg (by rw [isD_L hc]; decide), if_pos hc, hx, numEnd_nat h h15 f, ey]
      · unfold kindOf
        rw [if_neg (by rw [isD_L hc]; decide), if_pos hc]
  | @dec y ds es hy h g h1 h15 g1 g15 =>
    have f := fits_N.mp f
    cases ds with
    | nil => exact absurd h1 (by decide)
    | cons c r =>
      have g0 : x.cps.toList[P.length]? = some c := by rw [g0, hy]; rfl
      have hc : isD c = true := by rw [List.all_cons, Bool.and_eq_true] at h; exact h.1
      have ne : c ≠ 32 ∧ c ≠ 10 ∧ c ≠ 47 := by
        refine ⟨?_, ?_, ?_⟩ <;> (intro t; rw [t] at hc; exact absurd hc (by decide))
      refine ⟨⟨?_, ?_⟩, c, g0, ?_, ?_, by rw [ey, hy]; exact Nat.succ_pos _⟩
      · rw [hy]
        rintro (t | t)
        · exact ne.1 (Option.some.inj t)
        · exact ne.2.1 (Option.some.inj t)
      · rw [hy]
        rintro ⟨t, _⟩
        exact ne.2.2 (Option.some.inj t)
      · unfold tokEnd
        rw [if_neg (by rw [isD_L hc]; decide), if_pos hc, hx, hy, numEnd_dec h g h15 g1 g15 f, ey, hy]
      · unfold kindOf
        rw [if_neg (by rw [isD_L hc]; decide), if_pos hc]
  | @one y c hy hc =>
    have f := fits_S.mp f
    have n := sym_not hc
    rw [hy] at g0 g1 ey
    have g0 : x.cps.toList[P.length]? = some c := g0
    have g1 : x.cps.toList[P.length + 1]? = S.head? := by rw [g1, head_get]; rfl
    have lo : ¬ longAt x P.length = true := by
      rw [long_iff]
      rintro ⟨a, b, h1, h2, h3⟩
      rw [g0] at h1
      rw [g1] at h2
      have h1 := Option.some.inj h1
      subst h1
      refine f c b hy h2 ?_
      rcases h3 with h | h | h | h
      · exact .inl h
      · exact .inr (.inl h)
      · exact .inr (.inr (.inl h))
      · exact .inr (.inr (.inr (.inl h)))
    refine ⟨⟨?_, ?_⟩, c, g0, ?_, ?_, by rw [ey]; exact Nat.zero_lt_one⟩
    · rw [hy]
      rintro (t | t)
      · exact n.2.2.2.1 (Option.some.inj t)
      · exact n.2.2.2.2 (Option.some.inj t)
    · rw [hy]
      rintro ⟨t, u⟩
      exact f c 47 hy (by rw [head_get]; exact u) (.inr (.inr (.inr (.inr ⟨Option.some.inj t, rfl⟩))))
    · unfold tokEnd
      rw [if_neg (by rw [n.1]; decide), if_neg (by rw [n.2.1]; decide), if_neg lo, if_pos hc, ey]
      rfl
    · unfold kindOf
      rw [if_neg (by rw [n.1]; decide), if_neg (by rw [n.2.1]; decide)]
  | @two y hy =>
    have l2 := long_len hy
    obtain ⟨a, b, e, ab⟩ : ∃ a b, y.cps.toList = [a, b] ∧ ((a = 61 ∧ b = 61) ∨ (a = 60 ∧ b = 61) ∨ (a = 62 ∧ b = 61) ∨ (a = 60 ∧ b = 62)) := by
      rcases long_codes hy with h | h | h | h
      · exact ⟨_, _, h, .inl ⟨rfl, rfl⟩⟩
      · exact ⟨_, _, h, .inr (.inl ⟨rfl, rfl⟩)⟩
      · exact ⟨_, _, h, .inr (.inr (.inl ⟨rfl, rfl⟩))⟩
      · exact ⟨_, _, h, .inr (.inr (.inr ⟨rfl, rfl⟩))⟩
    rw [e] at g0 g1
    have g0 : x.cps.toList[P.length]? = some a := g0
    have g1 : x.cps.toList[P.length + 1]? = some b := g1
    have lo : longAt x P.length = true := (long_iff x _).mpr ⟨a, b, g0, g1, ab⟩
    have n : isL a = false ∧ isD a = false ∧ a ≠ 32 ∧ a ≠ 10 ∧ a ≠ 47 := by
      rcases ab with ⟨h, _⟩ | ⟨h, _⟩ | ⟨h, _⟩ | ⟨h, _⟩ <;> (rw [h]; decide)
    refine ⟨⟨?_, ?_⟩, a, g0, ?_, ?_, by omega⟩
    · rw [e]
      rintro (t | t)
      · exact n.2.2.1 (Option.some.inj t)
      · exact n.2.2.2.1 (Option.some.inj t)
    · rw [e]
      rintro ⟨t, _⟩
      exact n.2.2.2.2 (Option.some.inj t)
    · unfold tokEnd
      rw [if_neg (by rw [n.1]; decide), if_neg (by rw [n.2.1]; decide), if_pos lo, l2]
    · unfold kindOf
      rw [if_neg (by rw [n.1]; decide), if_neg (by rw [n.2.1]; decide)]
/-- what may stand behind the last token -/
def FitsL (ts : List (Str × Str × Nat)) (S : List Nat) : Prop := ∀ t, ts.getLast? = some t → Fits t.1 t.2.1.cps.toList S
/-- a text whose tokens are these -/
def Made (cs : List Nat) (ts : List (Str × Str × Nat)) : Prop := ∀ (x : Str) (S : List Nat), x.cps.toList = cs ++ S → FitsL ts S →
  lexed x = (ts ++ (from_ x (nextAt x.cps.toList cs.length)).1, (from_ x (nextAt x.cps.toList cs.length)).2)
theorem made_nil : Made [] [] := fun x S hx _ => rfl
theorem made_more {cs G : List Nat} {ts : List (Str × Str × Nat)} {k y : Str} (m : Made cs ts) (g : Gap G) (t : Tok k y) (f : ∀ S, FitsL ts (G ++ (y.cps.toList ++ S))) : Made (cs ++ (G ++ y.cps.toList)) (ts ++ [(k, y, (cs ++ G).length)]) := by
  intro x S hx hf
  have hk : Fits k y.cps.toList S := hf (k, y, (cs ++ G).length) (by rw [List.getLast?_append]; rfl)
  have hx1 : x.cps.toList = cs ++ (G ++ (y.cps.toList ++ S)) := by rw [hx]; simp
  have hx2 : x.cps.toList = (cs ++ G) ++ (y.cps.toList ++ S) := by rw [hx]; simp
  obtain ⟨ng, c, hc, te, kd, y0⟩ := tok_step hx2 t hk
  have e1 := m x _ hx1 (f S)
  have e2 := nextAt_gap g (P := cs) ng
  rw [← hx1, ← List.length_append] at e2
  rw [e1, e2, from_step hc (by rw [te]; omega), te, piece_mid hx2, kd]
  have el : (cs ++ (G ++ y.cps.toList)).length = (cs ++ G).length + y.length := by
    rw [str_len]
    simp only [List.length_append]
    omega
  rw [el, List.append_assoc]
  rfl
/-- the text's end: a gap, perhaps a remark without a line feed -/
theorem made_end {cs : List Nat} {ts : List (Str × Str × Nat)} {x : Str} {G : List Nat} (m : Made cs ts) (hx : x.cps.toList = cs ++ G) (f : FitsL ts G) (g : nextAt x.cps.toList cs.length = x.cps.toList.length) : lexed x = (ts, x.cps.toList.length) := by
  rw [m x G hx f, g, from_end (Nat.le_refl _), List.append_nil]
end
section
variable {P : Program} {w : World} {K : PySem.W.Frag} {mg : Str → Option Value} {base : Heap}
/-! ### the law's tokens -/
theorem ok__law_keys (T : Top w K mg) : FnOk P w K mg base CX0 1 (He.ga K ("_law_keys" : Str)) (fdOf K d__law_keys) [] spKeys := by
  refine (T.f__law_keys).ok sc__law_keys (fun vs H Q E h => ?_) (fun cdv A outer s H vs Q E hr h => ?_)
  · obtain ⟨rfl, _⟩ := h
    rfl
  · obtain ⟨rfl, k⟩ := h
    refine ⟨_, PSs.nox (pss_cons (ps_set (i := 0) sc__law_keys.nd rfl (Or.inl rfl) pe_str)
    (pss_cons (ps_set (i := 0) sc__law_keys.nd rfl (Or.inl rfl) (pe_op op_add_str (pv 0) pe_str))
    (pss_one (ps_ret (pe_bm PySem.F.plainAttrs_str PySem.F.slot_str_split PySem.F.type_str_split mt_split (pv 0) (pa_cons pe_str pa_nil)))))), ?_⟩
    walk_at "go"
    refine ⟨rfl, ?_⟩
    walk_at "go"
    rw [keys_split]
    exact fun p hp => k p _ (same_new hp) hp upd_same
def WordS (y : Str) : Prop := ∃ c r, y.cps.toList = c :: r ∧ isL c = true ∧ r.all isW = true ∧ r.length ≤ 19
def spWord : Sp := fun vs H Q _ => ∃ s : Addr, vs = [.ref s] ∧ Strm H s ∧ ∀ y H', Same H H' → WordS y → PyData.strOk y = true → Q (.str y) H'
theorem wch {c : Nat} (h : c ∈ (letS ++ Str.ofString "0123456789_").cps.toList) : isW c = true := by
  rw [← let_isW]
  exact decide_eq_true h
theorem ok__law_word (T : Top w K mg) : FnOk P w K mg base CX0 2 (He.ga K ("_law_word" : Str)) (fdOf K d__law_word) ["stream"] spWord := by
  refine (T.f__law_word).ok sc__law_word (fun vs H Q E h => ?_) (fun cdv A outer s H vs Q E hr h => ?_)
  · obtain ⟨s, rfl, _⟩ := h
    rfl
  · obtain ⟨s0, rfl, hS, k⟩ := h
    refine ⟨_, PSs.nox (pss_cons (ps_set (i := 1) sc__law_word.nd rfl (Or.inl rfl) pe_str)
    (pss_cons (ps_set (i := 2) sc__law_word.nd rfl (Or.inl rfl) (pe_ix ix_str (pv 1) (pe_call (ok__law_draw (K := K) T) (hr.mono (by decide)) rfl T.g__law_draw T.f__law_draw.kp T.b__law_draw .nil pass0 (pa_cons (pv 0) (pa_cons pe_int pa_nil))) (fun _ _ => rfl)))
    (pss_cons (ps_for PassesOwn.never rfl (pi_range1 rfl T.n_range (pa_cons (pe_ix (ix_listK (K := K) rfl) (pe_lst (pa_cons (pe_call (ok__law_draw (K := K) T) (hr.mono (by decide)) rfl T.g__law_draw T.f__law_draw.kp T.b__law_draw .nil pass0 (pa_cons (pv 0) (pa_cons pe_int pa_nil))) (pa_cons pe_int pa_nil))) (pe_callTy call_int1 (by rfl) T.n_int (by decide +kernel) (pa_cons (pe_cmpR op_eq (pe_call (ok__law_draw (K := K) T) (hr.mono (by decide)) rfl T.g__law_draw T.f__law_draw.kp T.b__law_draw .nil pass0 (pa_cons (pv 0) (pa_cons pe_int pa_nil))) pe_int (nomark _)) pa_nil)) (fun _ _ => rfl)) pa_nil)) (pg_name (i := 3) sc__law_word.nd rfl (Or.inl rfl))
    (pss_one (ps_set (i := 2) sc__law_word.nd rfl (Or.inl rfl) (pe_op op_add_str (pv 2) (pe_ix ix_str (pe_op op_add_str (pv 1) pe_str) (pe_call (ok__law_draw (K := K) T) (hr.mono (by decide)) rfl T.g__law_draw T.f__law_draw.kp T.b__law_draw .nil pass0 (pa_cons (pv 0) (pa_cons pe_int pa_nil))) (fun _ _ => rfl))))))
    (pss_one (ps_ret (pv 2)))))), ?_⟩
    walk_at "go"
    intro v0 a0 a1
    have ll : letS.cps.toList.length = 52 := by decide +kernel
    have le2 : (letS ++ Str.ofString "0123456789_").cps.toList.length = 63 := by decide +kernel
    have sl : PyData.strOk letS = true := by decide +kernel
    have sl2 : PyData.strOk (letS ++ Str.ofString "0123456789_") = true := by decide +kernel
    obtain ⟨c0, hm0, hc0⟩ := atI_sign (x := letS) a0 (by rw [ll]; exact a1)
    refine ⟨letS, _, _, rfl, rfl, str_fits (by rw [ll]; decide), hc0, ?_⟩
    walk_at "go"
    intro v1 b0 b1
    walk_at "go"
    refine ⟨by show 2 ≤ sizeLine; decide, fun p hp => ?_⟩
    have hS1 := hS.mono (same_new (o := .lst [.int v1, .int 19]) hp)
    have s1 : Same H (upd H p (.lst [.int v1, .int 19])) := same_new hp
    walk_at "go"
    intro v2 _ _
    walk_at "go"
    refine Or.inr ⟨_, rfl, ?_⟩
    obtain ⟨n, hn, n0, n1⟩ : ∃ n, atI [V.int v1, V.int 19] (if decide (V.int v2 = V.int 0) = true then 1 else 0) = some (.int n) ∧ 0 ≤ n ∧ n ≤ 19 := by
      by_cases q : decide (V.int v2 = V.int 0) = true
      · rw [if_pos q]
        exact ⟨19, rfl, by omega, by omega⟩
      · rw [if_neg q]
        exact ⟨v1, rfl, by omega, by omega⟩
    refine r_ixL (SqL.of upd_same) hn ?_
    walk_at "go"
    refine for_rng (n := n.toNat) (lo := 0) (fun i σ H' => H' = upd H p (.lst [.int v1, .int 19]) ∧ ∃ (y : Str) (kv : Option V), σ = [some (.ref s0), some (.str letS), some (.str y), kv] ∧ PyData.strOk y = true ∧ ∃ r, y.cps.toList = c0 :: r ∧ r.all isW = true ∧ r.length = i)
      ⟨rfl, ⟨#[c0]⟩, _, rfl, sok_sign sl hm0, [], rfl, rfl, rfl⟩ ?_ ?_
    · rintro i σ H' hi ⟨rfl, y, kv, rfl, hk, r, hy, hr, hl⟩
      walk_at "go"
      have len2 : letS.length + (Str.ofString "0123456789_").length ≤ sizeLine := by rw [sizeLine_eq]; decide +kernel
      intro v3 d0 d1
      obtain ⟨c3, hm3, hc3⟩ := atI_sign (x := letS ++ Str.ofString "0123456789_") d0 (by rw [le2]; exact d1)
      refine ⟨letS ++ Str.ofString "0123456789_", _, _, rfl, rfl, str_fits (by rw [le2]; decide), hc3, ?_⟩
      have ly : y.length = r.length + 1 := by rw [str_len, hy]; rfl
      refine ⟨y, _, rfl, rfl, ?_, rfl, y ++ ⟨#[c3]⟩, _, rfl, sok_app hk (sok_sign sl2 hm3), r ++ [c3], ?_, ?_, ?_⟩
      · show y.length + 1 ≤ sizeLine
        rw [sizeLine_eq]
        omega
      · rw [Str.cps_append, Array.toList_append, hy]
        rfl
      · rw [List.all_append, hr, List.all_cons, wch hm3]
        rfl
      · rw [List.length_append, hl]
        rfl
    · rintro σ H' ⟨rfl, y, kv, rfl, hk, r, hy, hr, hl⟩
      walk_at "go"
      exact k y _ s1 ⟨c0, r, hy, (let_isL c0).mp hm0, hr, by omega⟩ hk
theorem digit_text {v : Int} (h0 : 0 ≤ v) (h1 : v < 10) : ∃ c, isD c = true ∧ (Str.ofString (toString v)).cps.toList = [c] ∧ PyData.strOk (Str.ofString (toString v)) = true := by
  obtain ⟨k, rfl⟩ : ∃ k : Nat, v = (k : Int) := ⟨v.toNat, by omega⟩
  have hk : k < 10 := by omega
  have all : ∀ k : Fin 10, isD (48 + k.val) = true ∧ (Str.ofString (toString ((k.val : Nat) : Int))).cps.toList = [48 + k.val] ∧ PyData.strOk (Str.ofString (toString ((k.val : Nat) : Int))) = true := by decide +kernel
  exact ⟨48 + k, all ⟨k, hk⟩⟩
/-- so many digits more -/
theorem dig_loop {s0 : Addr} {H1 : Hp} (hS1 : Strm H1 s0) {y0 : Str} {n : Nat} (hn : n ≤ 15) (l0 : y0.length ≤ 20) (k0 : PyData.strOk y0 = true) {kv : Option V} {nx : St → Hp → Prop} {rt : VK} {bk ct : St → Hp → Prop}
    (fin : ∀ (y : Str) (kv : Option V) (es : List Nat), y.cps.toList = y0.cps.toList ++ es → es.all isD = true → es.length = n → PyData.strOk y = true → nx [some (.ref s0), some (.str y), kv] H1) :
    forR (Itr 0 n) (gName 2) (tAsg (tOp (fun x y H Q => ∃ i j, x = V.str i ∧ y = V.str j ∧ i.length + j.length ≤ sizeLine ∧ Q (V.str (i ++ j)) H) (tVar 1)
      (tCB (fun xs H Q => ∃ i : Int, xs = [V.int i] ∧ i.natAbs.log2 < 1920 ∧ Q (V.str (Str.ofString (toString i))) H) (tCons (tCall spDraw [] E0 (tCons (tVar 0) (tCons (tC (V.int 10)) tNil))) tNil))) (gName 1)) ⟨nx, rt, bk, ct⟩ [some (.ref s0), some (.str y0), kv] H1 := by
  refine for_rng (n := n) (lo := 0) (fun i σ H' => H' = H1 ∧ ∃ (y : Str) (kv : Option V) (es : List Nat), σ = [some (.ref s0), some (.str y), kv] ∧ y.cps.toList = y0.cps.toList ++ es ∧ es.all isD = true ∧ es.length = i ∧ PyData.strOk y = true)
    ⟨rfl, y0, _, [], rfl, by rw [List.append_nil], rfl, rfl, k0⟩ ?_ ?_
  · rintro i σ H' hi ⟨rfl, y, kv, es, rfl, hy, he, hl, hk⟩
    walk_at "go"
    intro v a b
    obtain ⟨c, hc, hcs, hck⟩ := digit_text a b
    have ly : y.length = y0.length + es.length := by rw [str_len, hy, List.length_append, ← str_len]
    have lt : (Str.ofString (toString v)).length = 1 := by rw [str_len, hcs]; rfl
    have sm : v.natAbs.log2 < 1920 := by
      have h : v.natAbs < 2 ^ 20 := by omega
      exact Nat.lt_of_lt_of_le (PySem.Flt.log2_lt_of (by decide) h) (by decide)
    refine ⟨v, rfl, sm, y, _, rfl, rfl, by rw [lt, sizeLine_eq]; omega, rfl, y ++ Str.ofString (toString v), _, es ++ [c], rfl, ?_, ?_, ?_, sok_app hk hck⟩
    · rw [Str.cps_append, Array.toList_append, hy, hcs, List.append_assoc]
    · rw [List.all_append, he, List.all_cons, hc]
      rfl
    · rw [List.length_append, hl]
      rfl
  · rintro σ H' ⟨rfl, y, kv, es, rfl, hy, he, hl, hk⟩
    exact fin y kv es hy he hl hk
def spNumber : Sp := fun vs H Q _ => ∃ s : Addr, vs = [.ref s] ∧ Strm H s ∧ ∀ y H', Same H H' → Tok "number" y → y.length ≤ 40 → PyData.strOk y = true → Q (.str y) H'
theorem ok__law_number (T : Top w K mg) : FnOk P w K mg base CX0 2 (He.ga K ("_law_number" : Str)) (fdOf K d__law_number) ["stream"] spNumber := by
  refine (T.f__law_number).ok sc__law_number (fun vs H Q E h => ?_) (fun cdv A outer s H vs Q E hr h => ?_)
  · obtain ⟨s, rfl, _⟩ := h
    rfl
  · obtain ⟨s0, rfl, hS, k⟩ := h
    refine ⟨_, PSs.nox (pss_cons (ps_set (i := 1) sc__law_number.nd rfl (Or.inl rfl) pe_str)
    (pss_cons (ps_for PassesOwn.never rfl (pi_range1 rfl T.n_range (pa_cons (pe_ix (ix_listK (K := K) rfl) (pe_lst (pa_cons (pe_op op_add pe_int (pe_call (ok__law_draw (K := K) T) (hr.mono (by decide)) rfl T.g__law_draw T.f__law_draw.kp T.b__law_draw .nil pass0 (pa_cons (pv 0) (pa_cons pe_int pa_nil)))) (pa_cons pe_int pa_nil))) (pe_callTy call_int1 (by rfl) T.n_int (by decide +kernel) (pa_cons (pe_cmpR op_eq (pe_call (ok__law_draw (K := K) T) (hr.mono (by decide)) rfl T.g__law_draw T.f__law_draw.kp T.b__law_draw .nil pass0 (pa_cons (pv 0) (pa_cons pe_int pa_nil))) pe_int (nomark _)) pa_nil)) (fun _ _ => rfl)) pa_nil)) (pg_name (i := 2) sc__law_number.nd rfl (Or.inl rfl))
    (pss_one (ps_set (i := 1) sc__law_number.nd rfl (Or.inl rfl) (pe_op op_add_str (pv 1) (pe_callTy call_str_int (by rfl) T.n_str (by decide +kernel) (pa_cons (pe_call (ok__law_draw (K := K) T) (hr.mono (by decide)) rfl T.g__law_draw T.f__law_draw.kp T.b__law_draw .nil pass0 (pa_cons (pv 0) (pa_cons pe_int pa_nil))) pa_nil))))))
    (pss_cons (ps_if (pt_cmpR op_eq (pe_call (ok__law_draw (K := K) T) (hr.mono (by decide)) rfl T.g__law_draw T.f__law_draw.kp T.b__law_draw .nil pass0 (pa_cons (pv 0) (pa_cons pe_int pa_nil))) pe_int (nomark _))
    (pss_one (ps_ret (pv 1)))
    pss_nil)
    (pss_cons (ps_set (i := 1) sc__law_number.nd rfl (Or.inl rfl) (pe_op op_add_str (pv 1) pe_str))
    (pss_cons (ps_for PassesOwn.never rfl (pi_range1 rfl T.n_range (pa_cons (pe_ix (ix_listK (K := K) rfl) (pe_lst (pa_cons (pe_op op_add pe_int (pe_call (ok__law_draw (K := K) T) (hr.mono (by decide)) rfl T.g__law_draw T.f__law_draw.kp T.b__law_draw .nil pass0 (pa_cons (pv 0) (pa_cons pe_int pa_nil)))) (pa_cons pe_int pa_nil))) (pe_callTy call_int1 (by rfl) T.n_int (by decide +kernel) (pa_cons (pe_cmpR op_eq (pe_call (ok__law_draw (K := K) T) (hr.mono (by decide)) rfl T.g__law_draw T.f__law_draw.kp T.b__law_draw .nil pass0 (pa_cons (pv 0) (pa_cons pe_int pa_nil))) pe_int (nomark _)) pa_nil)) (fun _ _ => rfl)) pa_nil)) (pg_name (i := 2) sc__law_number.nd rfl (Or.inl rfl))
    (pss_one (ps_set (i := 1) sc__law_number.nd rfl (Or.inl rfl) (pe_op op_add_str (pv 1) (pe_callTy call_str_int (by rfl) T.n_str (by decide +kernel) (pa_cons (pe_call (ok__law_draw (K := K) T) (hr.mono (by decide)) rfl T.g__law_draw T.f__law_draw.kp T.b__law_draw .nil pass0 (pa_cons (pv 0) (pa_cons pe_int pa_nil))) pa_nil))))))
    (pss_one (ps_ret (pv 1)))))))), ?_⟩
    walk_at "go"
    intro v1 b0 b1
    walk_at "go"
    refine ⟨by show 2 ≤ sizeLine; decide, fun p hp => ?_⟩
    generalize hH1 : upd H p (.lst [.int (1 + v1), .int 15]) = H1
    have hp1 : H1 p = some (.lst [.int (1 + v1), .int 15]) := by rw [← hH1]; exact upd_same
    have s1 : Same H H1 := by rw [← hH1]; exact same_new hp
    have hS1 := hS.mono s1
    walk_at "go"
    intro v2 _ _
    walk_at "go"
    refine Or.inr ⟨_, rfl, ?_⟩
    obtain ⟨n, hn, n0, n1⟩ : ∃ n, atI [V.int (1 + v1), V.int 15] (if decide (V.int v2 = V.int 0) = true then 1 else 0) = some (.int n) ∧ 1 ≤ n ∧ n ≤ 15 := by
      by_cases q : decide (V.int v2 = V.int 0) = true
      · rw [if_pos q]
        exact ⟨15, rfl, by omega, by omega⟩
      · rw [if_neg q]
        exact ⟨1 + v1, rfl, by omega, by omega⟩
    refine r_ixL (SqL.of hp1) hn ?_
    walk_at "go"
    refine dig_loop hS1 (by omega) (by decide +kernel) (by decide +kernel) (fun y kv ds hy hd hl hk => ?_)
    have hy : y.cps.toList = ds := hy
    have ly : y.length = ds.length := by rw [str_len, hy]
    walk_at "go"
    intro v4 _ _
    walk_at "go"
    refine ite_d (fun q => ?_) (fun q => ?_)
    · walk_at "go"
      exact k y _ s1 (.nat hy hd (by omega) (by omega)) (by omega) hk
    · walk_at "go"
      have l1 : (Str.ofString ".").length = 1 := by decide +kernel
      refine ⟨by rw [l1, sizeLine_eq]; omega, ?_⟩
      walk_at "go"
      intro v5 b0 b1
      walk_at "go"
      refine ⟨by show 2 ≤ sizeLine; decide, fun p2 hp2 => ?_⟩
      generalize hH2 : upd H1 p2 (.lst [.int (1 + v5), .int 15]) = H2
      have hp3 : H2 p2 = some (.lst [.int (1 + v5), .int 15]) := by rw [← hH2]; exact upd_same
      have s2 : Same H1 H2 := by rw [← hH2]; exact same_new hp2
      have hS2 := hS1.mono s2
      walk_at "go"
      intro v6 _ _
      walk_at "go"
      refine Or.inr ⟨_, rfl, ?_⟩
      obtain ⟨n2, hn2, n20, n21⟩ : ∃ n, atI [V.int (1 + v5), V.int 15] (if decide (V.int v6 = V.int 0) = true then 1 else 0) = some (.int n) ∧ 1 ≤ n ∧ n ≤ 15 := by
        by_cases q : decide (V.int v6 = V.int 0) = true
        · rw [if_pos q]
          exact ⟨15, rfl, by omega, by omega⟩
        · rw [if_neg q]
          exact ⟨1 + v5, rfl, by omega, by omega⟩
      refine r_ixL (SqL.of hp3) hn2 ?_
      walk_at "go"
      refine dig_loop hS2 (by omega) (by rw [Str.length_append, l1]; omega) (sok_app hk (by decide +kernel)) (fun z kv es hz he hl2 hk2 => ?_)
      walk_at "go"
      have hz : z.cps.toList = ds ++ 46 :: es := by
        rw [hz, Str.cps_append, Array.toList_append, hy, show (Str.ofString ".").cps.toList = [46] from by decide +kernel, List.append_assoc]
        rfl
      have lz : z.length = ds.length + (es.length + 1) := by rw [str_len, hz, List.length_append, List.length_cons]
      exact k z _ (s1.trans s2) (.dec hz hd he (by omega) (by omega) (by omega) (by omega)) (by omega) hk2
end
section
variable {K : PySem.W.Frag} {H H' : Hp}
theorem sqL_mono {a : Addr} {xs : List V} (e : Same H H') (h : SqL K H a xs) : SqL K H' a xs := by
  rcases h with (h | ⟨o, h⟩) | h
  · exact .inl (.inl (e _ _ h))
  · exact .inl (.inr ⟨o, e _ _ h⟩)
  · exact .inr h
theorem sqT_mono {a : Addr} {xs : List V} (e : Same H H') (h : SqT K H a xs) : SqT K H' a xs := by
  rcases h with (h | ⟨o, h⟩) | h
  · exact .inl (.inl (e _ _ h))
  · exact .inl (.inr ⟨o, e _ _ h⟩)
  · exact .inr h
mutual
theorem dp_mono (e : Same H H') : ∀ (d : PyData) {v : V}, Dp K H v d → Dp K H' v d
  | _, _, .non => .non
  | _, _, .bl b => .bl b
  | _, _, .int i => .int i
  | _, _, .str x => .str x
  | _, _, .lst h g => .lst (sqL_mono e h) (dpAll_mono e _ g)
  | _, _, .tup h g => .tup (sqT_mono e h) (dpAll_mono e _ g)
theorem dpAll_mono (e : Same H H') : ∀ (ds : List PyData) {vs : List V}, DpAll K H vs ds → DpAll K H' vs ds
  | _, _, .nil => .nil
  | _, _, .cons h g => .cons (dp_mono e _ h) (dpAll_mono e _ g)
end
end
section
variable {P : Program} {w : World} {K : PySem.W.Frag} {mg : Str → Option Value} {base : Heap}
def keyChk (y : Str) : Bool := (match y.cps.toList with | c :: r => isL c && (r.all isW && decide (r.length ≤ 19)) | [] => false) && PyData.strOk y
theorem keys_ok : keyL.all keyChk = true := by decide +kernel
theorem key_tok {y : Str} (h : y ∈ keyL) : Tok "key" y ∧ y.length ≤ 40 ∧ PyData.strOk y = true := by
  have e := List.all_eq_true.mp keys_ok y h
  unfold keyChk at e
  rw [Bool.and_eq_true] at e
  obtain ⟨e, k⟩ := e
  split at e
  · rename_i c r hy
    simp only [Bool.and_eq_true, decide_eq_true_eq] at e
    obtain ⟨e1, e2, e3⟩ := e
    have kd : kindOf y c = "key" := by
      unfold kindOf
      rw [if_pos e1, inV_strs, if_pos (decide_eq_true h)]
    refine ⟨?_, ?_, k⟩
    · rw [← kd]
      exact .word hy e1 e2 e3
    · rw [str_len, hy, List.length_cons]
      omega
  · cases e
def signL : List Str := ["(", ")", "[", "]", "{", "}", ",", ";", ".", "=", "==", "<", "<=", ">", ">=", "<>", "+", "-", "*", "/", ":"]
def signChk (y : Str) : Bool := (decide (y ∈ longL) || (match y.cps.toList with | [c] => decide (c ∈ symL.cps.toList) | _ => false)) && (decide (y.length ≤ 40) && PyData.strOk y)
theorem signs_ok : signL.all signChk = true := by decide +kernel
theorem sign_tok {y : Str} (h : y ∈ signL) : Tok "symbol" y ∧ y.length ≤ 40 ∧ PyData.strOk y = true := by
  have e := List.all_eq_true.mp signs_ok y h
  unfold signChk at e
  simp only [Bool.and_eq_true, Bool.or_eq_true, decide_eq_true_eq] at e
  obtain ⟨e, l, k⟩ := e
  refine ⟨?_, l, k⟩
  rcases e with e | e
  · exact .two e
  · split at e
    · rename_i c hy
      exact .one hy (of_decide_eq_true e)
    · cases e
def spTok : Sp := fun vs H Q _ => ∃ s : Addr, vs = [.ref s] ∧ Strm H s ∧ ∀ p k y H', Same H H' → H' p = some (.tup [.str k, .str y]) → Tok k y → y.length ≤ 40 → PyData.strOk y = true → Q (.ref p) H'
theorem ok__law_token (T : Top w K mg) : FnOk P w K mg base CX0 3 (He.ga K ("_law_token" : Str)) (fdOf K d__law_token) ["stream"] spTok := by
  refine (T.f__law_token).ok sc__law_token (fun vs H Q E h => ?_) (fun cdv A outer s H vs Q E hr h => ?_)
  · obtain ⟨s, rfl, _⟩ := h
    rfl
  · obtain ⟨s0, rfl, hS, k⟩ := h
    refine ⟨_, PSs.nox (pss_cons (ps_set (i := 1) sc__law_token.nd rfl (Or.inl rfl) (pe_call0 (ok__law_keys (K := K) T) (hr.mono (by decide)) rfl T.g__law_keys T.f__law_keys.kp T.b__law_keys .nil pass0))
    (pss_cons (ps_set (i := 2) sc__law_token.nd rfl (Or.inl rfl) (pe_call (ok__law_draw (K := K) T) (hr.mono (by decide)) rfl T.g__law_draw T.f__law_draw.kp T.b__law_draw .nil pass0 (pa_cons (pv 0) (pa_cons pe_int pa_nil))))
    (pss_cons (ps_if (pt_cmpR op_eq (pv 2) pe_int (nomark _))
    (pss_cons (ps_set (i := 3) sc__law_token.nd rfl (Or.inl rfl) (pe_call (ok__law_word (K := K) T) (hr.mono (by decide)) rfl T.g__law_word T.f__law_word.kp T.b__law_word .nil pass0 (pa_cons (pv 0) pa_nil)))
    (pss_one (ps_ret (pe_tup (pa_cons (pe_ix (ix_listK (K := K) rfl) (pe_lst (pa_cons pe_str (pa_cons pe_str pa_nil))) (pe_callTy call_int1 (by rfl) T.n_int (by decide +kernel) (pa_cons (pe_cmpR (op_inK (K := K) rfl) (pv 3) (pv 1) (by rfl)) pa_nil)) (fun _ _ => rfl)) (pa_cons (pv 3) pa_nil))))))
    pss_nil)
    (pss_cons (ps_if (pt_cmpR op_eq (pv 2) pe_int (nomark _))
    (pss_one (ps_ret (pe_tup (pa_cons pe_str (pa_cons (pe_ix (ix_listK (K := K) rfl) (pv 1) (pe_call (ok__law_draw (K := K) T) (hr.mono (by decide)) rfl T.g__law_draw T.f__law_draw.kp T.b__law_draw .nil pass0 (pa_cons (pv 0) (pa_cons (pe_callB (call_lenK (K := K) rfl) (by rfl) T.n_len PySem.boot_len (pa_cons (pv 1) pa_nil)) pa_nil))) (fun _ _ => rfl)) pa_nil)))))
    pss_nil)
    (pss_cons (ps_if (pt_cmpR op_eq (pv 2) pe_int (nomark _))
    (pss_one (ps_ret (pe_tup (pa_cons pe_str (pa_cons (pe_call (ok__law_number (K := K) T) (hr.mono (by decide)) rfl T.g__law_number T.f__law_number.kp T.b__law_number .nil pass0 (pa_cons (pv 0) pa_nil)) pa_nil)))))
    pss_nil)
    (pss_cons (ps_set (i := 4) sc__law_token.nd rfl (Or.inl rfl) (pe_lst (pa_cons pe_str (pa_cons pe_str (pa_cons pe_str (pa_cons pe_str (pa_cons pe_str (pa_cons pe_str (pa_cons pe_str (pa_cons pe_str (pa_cons pe_str (pa_cons pe_str (pa_cons pe_str (pa_cons pe_str (pa_cons pe_str (pa_cons pe_str (pa_cons pe_str (pa_cons pe_str (pa_cons pe_str (pa_cons pe_str (pa_cons pe_str (pa_cons pe_str (pa_cons pe_str pa_nil)))))))))))))))))))))))
    (pss_one (ps_ret (pe_tup (pa_cons pe_str (pa_cons (pe_ix (ix_listK (K := K) rfl) (pv 4) (pe_call (ok__law_draw (K := K) T) (hr.mono (by decide)) rfl T.g__law_draw T.f__law_draw.kp T.b__law_draw .nil pass0 (pa_cons (pv 0) (pa_cons pe_int pa_nil))) (fun _ _ => rfl)) pa_nil))))))))))), ?_⟩
    walk_at "go"
    intro kx H1 e1 nk hk
    have hS1 := hS.mono e1
    walk_at "go"
    intro v0 _ _
    walk_at "go"
    refine ite_d (fun q => ?_) (fun q => ?_)
    · walk_at "go"
      intro y H2 e2 hy hyk
      obtain ⟨c, r, hyc, hc, hr, hl⟩ := hy
      have hk2 := e2 _ _ hk
      walk_at "go"
      intro p1 hp1
      have s1 : Same H2 (upd H2 p1 (.lst [.str "word", .str "key"])) := same_new hp1
      walk_at "go"
      refine ⟨_, _, rfl, .inl (SqL.of (s1 _ _ hk2)), rfl, flat_strs _, ?_⟩
      rw [if_neg (show ¬ (false = true) from by decide)]
      refine Or.inr ⟨_, rfl, ?_⟩
      have kd : atI [V.str "word", V.str "key"] (if inV (V.str y) (keyL.map V.str) = true then 1 else 0) = some (.str (kindOf y c)) := by
        unfold kindOf
        rw [if_pos hc]
        by_cases q : inV (V.str y) (keyL.map V.str) = true
        · rw [if_pos q, if_pos q]
          rfl
        · rw [if_neg q, if_neg q]
          rfl
      refine r_ixL (SqL.of upd_same) kd ?_
      walk_at "go"
      refine ⟨by show 2 ≤ sizeLine; decide, fun p hp => ?_⟩
      exact k p _ y _ (((e1.trans e2).trans s1).trans (same_new hp)) upd_same (.word hyc hc hr hl) (by rw [str_len, hyc, List.length_cons]; omega) hyk
    walk_at "go"
    refine ite_d (fun q => ?_) (fun q => ?_)
    · walk_at "go"
      refine ⟨kx, _, rfl, .inl (SqL.of hk), ?_⟩
      have lk : (keyL.map V.str).length = 30 := by rw [List.length_map]; decide +kernel
      have lk2 : keyL.length = 30 := by decide +kernel
      refine ⟨s0, ((keyL.map V.str).length : Int), rfl, hS1, by rw [lk]; decide, by rw [lk]; decide, fun v a b => ?_⟩
      rw [lk] at b
      obtain ⟨y, hy, ha⟩ := atI_strs (xs := keyL) a (by rw [lk2]; exact b)
      refine r_ixL (SqL.of hk) ha ?_
      obtain ⟨t1, t2, t3⟩ := key_tok hy
      refine ⟨by show 2 ≤ sizeLine; decide, fun p hp => ?_⟩
      exact k p _ y _ (e1.trans (same_new hp)) upd_same t1 t2 t3
    walk_at "go"
    refine ite_d (fun q => ?_) (fun q => ?_)
    · walk_at "go"
      intro y H2 e2 hy hyl hyk
      walk_at "go"
      refine ⟨by show 2 ≤ sizeLine; decide, fun p hp => ?_⟩
      exact k p _ y _ ((e1.trans e2).trans (same_new hp)) upd_same hy hyl hyk
    walk_at "go"
    intro p1 hp1
    have s1 : Same H1 (upd H1 p1 (.lst (signL.map V.str))) := same_new hp1
    have hS2 := hS1.mono s1
    have hp2 : (upd H1 p1 (.lst (signL.map V.str))) p1 = some (.lst (signL.map V.str)) := upd_same
    change tRet _ _ _ (upd H1 p1 (.lst (signL.map V.str)))
    generalize upd H1 p1 (.lst (signL.map V.str)) = H2 at *
    walk_at "go"
    intro v a b
    obtain ⟨y, hy, ha⟩ := atI_strs (xs := signL) a (by rw [show signL.length = 21 from rfl]; exact b)
    refine r_ixL (SqL.of hp2) ha ?_
    walk_at "go"
    obtain ⟨t1, t2, t3⟩ := sign_tok hy
    refine ⟨by show 2 ≤ sizeLine; decide, fun p hp => ?_⟩
    exact k p _ y _ ((e1.trans s1).trans (same_new hp)) upd_same t1 t2 t3
theorem dec_str (a b : Str) : decide (V.str a = V.str b) = decide (a = b) := by
  by_cases h : a = b
  · rw [decide_eq_true h, decide_eq_true (congrArg V.str h)]
  · rw [decide_eq_false h, decide_eq_false fun t => h (vstr_inj t)]
/-- whether two tokens without a gap would be read otherwise -/
def touchB (k1 y1 k2 y2 : Str) (d : Nat) : Bool :=
  if k1 = "symbol" ∧ k2 = "symbol" then decide ((y1 ++ ⟨#[d]⟩ : Str) ∈ (["==", "<=", ">=", "<>", "//"] : List Str))
  else if k1 = "word" ∨ k1 = "key" then !decide (k2 = "symbol")
  else if k1 = "number" then decide (k2 = "number") || decide (y2 = ".") else false
def spTouch (K : PySem.W.Frag) : Sp := fun vs H Q _ => ∃ (a b : Addr) (k1 y1 k2 y2 : Str) (i : Int) (d : Nat), vs = [.ref a, .ref b] ∧ SqT K H a [.str k1, .str y1, .int i] ∧ SqT K H b [.str k2, .str y2] ∧ y2.cps.toList[0]? = some d ∧ y1.length ≤ 40 ∧ y2.length ≤ 40 ∧
  ∀ H', Same H H' → Q (.bl (touchB k1 y1 k2 y2 d)) H'
theorem ok__law_touch (T : Top w K mg) : FnOk P w K mg base CX0 1 (He.ga K ("_law_touch" : Str)) (fdOf K d__law_touch) ["one", "two"] (spTouch K) := by
  refine (T.f__law_touch).ok sc__law_touch (fun vs H Q E h => ?_) (fun cdv A outer s H vs Q E hr h => ?_)
  · obtain ⟨a, b, k1, y1, k2, y2, i, d, rfl, _⟩ := h
    rfl
  · obtain ⟨a, b, k1, y1, k2, y2, i, d, rfl, ha, hb, hd, l1, l2, k⟩ := h
    unfold touchB at k
    refine ⟨_, PSs.nox (C8.pss_cut (ps_if (PW.pt (pw_and (pt_cmpR op_eq (pe_ix (ix_tupK (K := K) rfl) (pv 0) pe_int (fun _ _ => rfl)) pe_str (nomark _)) (pw_and1 (pt_cmpR op_eq (pe_ix (ix_tupK (K := K) rfl) (pv 1) pe_int (fun _ _ => rfl)) pe_str (nomark _)))))
    (pss_one (ps_ret (pe_cmpR (op_inK (K := K) rfl) (pe_op op_add_str (pe_ix (ix_tupK (K := K) rfl) (pv 0) pe_int (fun _ _ => rfl)) (pe_ix ix_str (pe_ix (ix_tupK (K := K) rfl) (pv 1) pe_int (fun _ _ => rfl)) pe_int (fun _ _ => rfl))) (pe_tup (pa_cons pe_str (pa_cons pe_str (pa_cons pe_str (pa_cons pe_str (pa_cons pe_str pa_nil)))))) (by rfl))))
    pss_nil)
    (pss_cons (ps_if (pt_cmpR (op_inK (K := K) rfl) (pe_ix (ix_tupK (K := K) rfl) (pv 0) pe_int (fun _ _ => rfl)) (pe_tup (pa_cons pe_str (pa_cons pe_str pa_nil))) (by rfl))
    (pss_one (ps_ret (pe_cmpR op_ne (pe_ix (ix_tupK (K := K) rfl) (pv 1) pe_int (fun _ _ => rfl)) pe_str (nomark _))))
    pss_nil)
    (pss_cons (ps_if (pt_cmpR op_eq (pe_ix (ix_tupK (K := K) rfl) (pv 0) pe_int (fun _ _ => rfl)) pe_str (nomark _))
    (pss_one (ps_ret (pe_or (pe_cmpR op_eq (pe_ix (ix_tupK (K := K) rfl) (pv 1) pe_int (fun _ _ => rfl)) pe_str (nomark _)) (pe_one (pe_cmpR op_eq (pe_ix (ix_tupK (K := K) rfl) (pv 1) pe_int (fun _ _ => rfl)) pe_str (nomark _))))))
    pss_nil)
    (pss_one (ps_ret pe_bl))))), ?_⟩
    walk_at "go"
    refine r_cut (fun σ H' => H' = H ∧ σ = [some (.ref a), some (.ref b)] ∧ ¬ (k1 = "symbol" ∧ k2 = "symbol")) ?_ ?_
    · walk_at "go"
      refine r_ixT ha rfl ?_
      walk_at "go"
      refine ite_d (fun c1 => ?_) (fun c1 => ?_)
      · have c1 := vstr_inj c1
        walk_at "go"
        refine r_ixT hb rfl ?_
        walk_at "go"
        refine ite_d (fun c2 => ?_) (fun c2 => ?_)
        · have c2 := vstr_inj c2
          walk_at "go"
          refine r_ixT ha rfl ?_
          walk_at "go"
          refine r_ixT hb rfl ?_
          walk_at "go"
          refine ⟨y2, _, _, rfl, rfl, by rw [sizeLine_eq]; omega, atI_nat (j := 0) hd, ?_⟩
          refine ⟨y1, _, rfl, rfl, by show y1.length + 1 ≤ _; rw [sizeLine_eq]; omega, ?_⟩
          walk_at "go"
          intro p hp
          refine ⟨p, _, rfl, .inr (SqT.of upd_same), rfl, rfl, ?_⟩
          rw [if_neg (show ¬ (false = true) from by decide)]
          have q := k _ (same_new (o := .tup ((["==", "<=", ">=", "<>", "//"] : List Str).map V.str)) hp)
          rw [if_pos ⟨c1, c2⟩, ← inV_strs] at q
          exact q
        · walk_at "go"
          exact ⟨rfl, rfl, fun t => c2 (congrArg V.str t.2)⟩
      · walk_at "go"
        exact ⟨rfl, rfl, fun t => c1 (congrArg V.str t.1)⟩
    · rintro σ H' ⟨rfl, rfl, nn⟩
      rw [if_neg nn] at k
      walk_at "go"
      refine r_ixT ha rfl ?_
      walk_at "go"
      intro p hp
      have s1 : Same H' (upd H' p (.tup [.str "word", .str "key"])) := same_new hp
      have k := k _ s1
      refine ⟨p, _, rfl, .inr (SqT.of upd_same), rfl, rfl, ?_⟩
      rw [if_neg (show ¬ (false = true) from by decide)]
      have e : inV (V.str k1) [V.str "word", V.str "key"] = decide (k1 ∈ (["word", "key"] : List Str)) := inV_strs k1 ["word", "key"]
      rw [e]
      walk_at "go"
      refine ite_d (fun c => ?_) (fun c => ?_)
      · have c : k1 = "word" ∨ k1 = "key" := by simpa using c
        rw [if_pos c] at k
        walk_at "go"
        refine r_ixT (sqT_mono s1 hb) rfl ?_
        walk_at "go"
        have e2 : decide (V.str k2 = V.str "symbol") = decide (k2 = "symbol") := by
          by_cases h : k2 = "symbol"
          · rw [decide_eq_true h, decide_eq_true (congrArg V.str h)]
          · rw [decide_eq_false h, decide_eq_false fun t => h (vstr_inj t)]
        rw [e2]
        exact k
      · have c : ¬ (k1 = "word" ∨ k1 = "key") := by simpa using c
        rw [if_neg c] at k
        walk_at "go"
        refine r_ixT (sqT_mono s1 ha) rfl ?_
        walk_at "go"
        refine ite_d (fun c3 => ?_) (fun c3 => ?_)
        · rw [if_pos (vstr_inj c3)] at k
          walk_at "go"
          refine r_ixT (sqT_mono s1 hb) rfl ?_
          walk_at "go"
          refine ite_d (fun c4 => ?_) (fun c4 => ?_)
          · rw [decide_eq_true (vstr_inj c4), Bool.true_or] at k
            exact k
          · rw [decide_eq_false (fun t => c4 (congrArg V.str t)), Bool.false_or] at k
            walk_at "go"
            refine r_ixT (sqT_mono s1 hb) rfl ?_
            walk_at "go"
            rw [dec_str]
            exact k
        · rw [if_neg (fun t => c3 (congrArg V.str t))] at k
          walk_at "go"
          exact k
end
section
/-! ### what may stand behind a token -/
theorem tok_kinds {k y : Str} (t : Tok k y) : (∃ c r, y.cps.toList = c :: r ∧ isL c = true ∧ k = kindOf y c) ∨ (k = "number" ∧ ∃ c r, y.cps.toList = c :: r ∧ isD c = true) ∨ (k = "symbol" ∧ ((∃ c, y.cps.toList = [c] ∧ c ∈ symL.cps.toList) ∨ y ∈ longL)) := by
  cases t with
  | word hy hc hr hl => exact .inl ⟨_, _, hy, hc, rfl⟩
  | @nat y ds hy h h1 h15 =>
    refine .inr (.inl ⟨rfl, ?_⟩)
    cases ds with
    | nil => exact absurd h1 (by decide)
    | cons c r =>
      rw [List.all_cons, Bool.and_eq_true] at h
      exact ⟨c, r, hy, h.1⟩
  | @dec y ds es hy h g h1 h15 g1 g15 =>
    refine .inr (.inl ⟨rfl, ?_⟩)
    cases ds with
    | nil => exact absurd h1 (by decide)
    | cons c r =>
      rw [List.all_cons, Bool.and_eq_true] at h
      exact ⟨c, _, hy, h.1⟩
  | one hy hc => exact .inr (.inr ⟨rfl, .inl ⟨_, hy, hc⟩⟩)
  | two hy => exact .inr (.inr ⟨rfl, .inr hy⟩)
theorem tok_head {k y : Str} (t : Tok k y) : ∃ d r, y.cps.toList = d :: r ∧ ((isL d = true ∧ (k = "word" ∨ k = "key")) ∨ (isD d = true ∧ k = "number") ∨ (d ∈ symL.cps.toList ∧ k = "symbol" ∧ (d = 46 → y = "."))) := by
  rcases tok_kinds t with ⟨c, r, hy, hc, hk⟩ | ⟨hk, c, r, hy, hc⟩ | ⟨hk, ⟨c, hy, hc⟩ | hl⟩
  · refine ⟨c, r, hy, .inl ⟨hc, ?_⟩⟩
    rw [hk]
    exact (kind_L hc).symm
  · exact ⟨c, r, hy, .inr (.inl ⟨hc, hk⟩)⟩
  · refine ⟨c, [], hy, .inr (.inr ⟨hc, hk, fun e => ?_⟩)⟩
    rw [e] at hy
    obtain ⟨a⟩ := y
    have : a = #[46] := by
      have h : a.toList = [46] := hy
      rw [← Array.toArray_toList (xs := a), h]
    rw [this]
    decide +kernel
  · rcases long_codes hl with h | h | h | h
    · exact ⟨_, _, h, .inr (.inr ⟨by rw [sym_codes]; decide, hk, fun e => absurd e (by decide)⟩)⟩
    · exact ⟨_, _, h, .inr (.inr ⟨by rw [sym_codes]; decide, hk, fun e => absurd e (by decide)⟩)⟩
    · exact ⟨_, _, h, .inr (.inr ⟨by rw [sym_codes]; decide, hk, fun e => absurd e (by decide)⟩)⟩
    · exact ⟨_, _, h, .inr (.inr ⟨by rw [sym_codes]; decide, hk, fun e => absurd e (by decide)⟩)⟩
/-- a sign that may stand behind each token -/
theorem fits_head {k y : Str} (t : Tok k y) {S : List Nat} (h : ∀ d, S.head? = some d → isW d = false ∧ d ≠ 46 ∧ (y.cps.toList = [47] → d ≠ 47) ∧ (d = 61 ∨ d = 62 → False)) : Fits k y.cps.toList S := by
  rcases tok_kinds t with ⟨c, r, hy, hc, hk⟩ | ⟨hk, c, r, hy, hc⟩ | ⟨hk, _⟩
  · rw [hk, fits_L hc]
    exact fun d hd => (h d hd).1
  · rw [hk, fits_N]
    refine fun d hd => ⟨?_, (h d hd).2.1⟩
    exact Bool.eq_false_iff.mpr fun e => absurd (isD_W e) (by rw [(h d hd).1]; decide)
  · rw [hk, fits_S]
    rintro c d hY hd b
    have q := h d hd
    rcases b with ⟨_, e⟩ | ⟨_, e⟩ | ⟨_, e⟩ | ⟨_, e⟩ | ⟨e1, e⟩
    · exact q.2.2.2 (.inl e)
    · exact q.2.2.2 (.inl e)
    · exact q.2.2.2 (.inl e)
    · exact q.2.2.2 (.inr e)
    · rw [e1] at hY
      exact q.2.2.1 hY e
theorem fits_nil {k y : Str} (t : Tok k y) : Fits k y.cps.toList [] := fits_head t fun d hd => by cases hd
theorem fits_sp {k y : Str} (t : Tok k y) {c : Nat} {S : List Nat} (h : c = 32 ∨ c = 10) : Fits k y.cps.toList (c :: S) := fits_head t fun d hd => by
  have e : c = d := Option.some.inj hd
  rw [← e]
  rcases h with h | h <;> (rw [h]; exact ⟨by decide, by decide, fun _ => by decide, by decide⟩)
theorem fits_rem {k y : Str} (t : Tok k y) (n : y.cps.toList ≠ [47]) {S : List Nat} : Fits k y.cps.toList (47 :: S) := fits_head t fun d hd => by
  have e : 47 = d := Option.some.inj hd
  rw [← e]
  exact ⟨by decide, by decide, fun z => absurd z n, by decide⟩
theorem bad_two {c d : Nat} (b : Bad2 c d) : (⟨#[c]⟩ ++ ⟨#[d]⟩ : Str) ∈ (["==", "<=", ">=", "<>", "//"] : List Str) := by
  rcases b with ⟨rfl, rfl⟩ | ⟨rfl, rfl⟩ | ⟨rfl, rfl⟩ | ⟨rfl, rfl⟩ | ⟨rfl, rfl⟩ <;> decide +kernel
theorem str_one {y : Str} {c : Nat} (h : y.cps.toList = [c]) : y = ⟨#[c]⟩ := by
  obtain ⟨a⟩ := y
  have h : a.toList = [c] := h
  rw [← Array.toArray_toList (xs := a), h]
/-- no touch: the second may stand behind the first -/
theorem touch_fits {k1 y1 k2 y2 : Str} (t1 : Tok k1 y1) (t2 : Tok k2 y2) {d : Nat} (hd : y2.cps.toList[0]? = some d) (h : touchB k1 y1 k2 y2 d = false) (S : List Nat) : Fits k1 y1.cps.toList (y2.cps.toList ++ S) := by
  obtain ⟨d', r, e2, k⟩ := tok_head t2
  have hd' : d' = d := by
    rw [e2] at hd
    exact Option.some.inj hd
  subst hd'
  rw [e2]
  unfold touchB at h
  rcases tok_kinds t1 with ⟨c, r1, hy, hc, hk⟩ | ⟨hk, c, r1, hy, hc⟩ | ⟨hk, hs⟩
  · rw [hk, fits_L hc]
    have kw := kind_L (y := y1) hc
    have n1 : ¬ (k1 = "symbol" ∧ k2 = "symbol") := fun t => by
      rw [hk] at t
      rcases kw with e | e <;> (rw [e] at t; exact absurd t.1 (by decide +kernel))
    rw [if_neg n1, if_pos (by rw [hk]; exact kw.symm)] at h
    have s2 : k2 = "symbol" := by simpa using h
    intro q hq
    have eq : d' = q := Option.some.inj hq
    subst eq
    rcases k with ⟨_, e | e⟩ | ⟨_, e⟩ | ⟨hm, _⟩
    · rw [s2] at e; exact absurd e (by decide +kernel)
    · rw [s2] at e; exact absurd e (by decide +kernel)
    · rw [s2] at e; exact absurd e (by decide +kernel)
    · exact (sym_not hm).2.2.1
  · rw [hk, fits_N]
    rw [hk, if_neg (fun t => absurd t.1 (by decide +kernel)), if_neg (by decide +kernel), if_pos rfl, Bool.or_eq_false_iff, decide_eq_false_iff_not, decide_eq_false_iff_not] at h
    intro q hq
    have eq : d' = q := Option.some.inj hq
    subst eq
    rcases k with ⟨hL, _⟩ | ⟨_, e⟩ | ⟨hm, _, hp⟩
    · exact ⟨Bool.eq_false_iff.mpr fun t => absurd (isD_L t) (by rw [hL]; decide), fun t => by rw [t] at hL; exact absurd hL (by decide)⟩
    · exact absurd e h.1
    · exact ⟨(sym_not hm).2.1, fun t => h.2 (hp t)⟩
  · rw [hk, fits_S]
    rintro c q hY hq b
    have eq : d' = q := Option.some.inj hq
    subst eq
    rcases k with ⟨hL, _⟩ | ⟨hD, _⟩ | ⟨_, s2, _⟩
    · rcases b with ⟨_, e⟩ | ⟨_, e⟩ | ⟨_, e⟩ | ⟨_, e⟩ | ⟨_, e⟩ <;> (rw [e] at hL; exact absurd hL (by decide))
    · rcases b with ⟨_, e⟩ | ⟨_, e⟩ | ⟨_, e⟩ | ⟨_, e⟩ | ⟨_, e⟩ <;> (rw [e] at hD; exact absurd hD (by decide))
    · rw [if_pos ⟨hk, s2⟩, decide_eq_false_iff_not, str_one hY] at h
      exact h (bad_two b)
def gapL : List Str := ["", " ", "\n  ", "// =+ end {1\n", " //\n"]
theorem last_sign {x : Str} {P : List Nat} (h : x.cps.toList = P ++ [47]) : cutS x (some (-1)) none = "/" := by
  have el := str_len x
  have lx : x.cps.toList.length = P.length + 1 := by rw [h, List.length_append]; rfl
  unfold cutS
  have e1 : HT.sIx x.length 0 (some (-1)) = P.length := by
    show (if (-1 : Int) < 0 then ((-1 : Int) + (x.length : Int)).toNat else min (-1 : Int).toNat x.length) = P.length
    rw [if_pos (by decide)]
    omega
  have e2 : HT.sIx x.length x.length none = x.length := rfl
  rw [e1, e2, h, List.drop_left]
  rw [show x.length - P.length = 1 by omega]
  decide +kernel
theorem tok_len {k y : Str} (t : Tok k y) : y.length ≤ 40 := by
  rw [str_len]
  cases t with
  | word hy hc hr hl => rw [hy, List.length_cons]; omega
  | nat hy h h1 h15 => rw [hy]; omega
  | dec hy h g h1 h15 g1 g15 => rw [hy, List.length_append, List.length_cons]; omega
  | one hy hc => rw [hy]; show 1 ≤ 40; decide
  | two hy => rw [← str_len, long_len hy]; decide
theorem gap_facts {g : Str} (h : g ∈ gapL) : g.length ≤ 19 ∧ PyData.strOk g = true ∧ Gap g.cps.toList ∧
    (g = "" ∨ (∃ c r, g.cps.toList = c :: r ∧ (c = 32 ∨ c = 10) ∧ ¬ cutS g none (some 2) = "//") ∨ ((∃ r, g.cps.toList = 47 :: r) ∧ cutS g none (some 2) = "//")) := by
  unfold gapL at h
  simp only [List.mem_cons, List.not_mem_nil, or_false] at h
  rcases h with h | h | h | h | h
  · subst h
    exact ⟨by decide +kernel, by decide +kernel, .nil, .inl rfl⟩
  · have e : g.cps.toList = [32] := by rw [h]; decide +kernel
    exact ⟨by rw [h]; decide +kernel, by rw [h]; decide +kernel, by rw [e]; exact .sp (.inl rfl) .nil, .inr (.inl ⟨_, _, e, .inl rfl, by rw [h]; decide +kernel⟩)⟩
  · have e : g.cps.toList = [10, 32, 32] := by rw [h]; decide +kernel
    exact ⟨by rw [h]; decide +kernel, by rw [h]; decide +kernel, by rw [e]; exact .sp (.inr rfl) (.sp (.inl rfl) (.sp (.inl rfl) .nil)), .inr (.inl ⟨_, _, e, .inr rfl, by rw [h]; decide +kernel⟩)⟩
  · have e : g.cps.toList = 47 :: 47 :: ([32, 61, 43, 32, 101, 110, 100, 32, 123, 49] ++ 10 :: []) := by rw [h]; decide +kernel
    exact ⟨by rw [h]; decide +kernel, by rw [h]; decide +kernel, by rw [e]; exact .rm rfl (.sp (.inr rfl) .nil), .inr (.inr ⟨⟨_, e⟩, by rw [h]; decide +kernel⟩)⟩
  · have e : g.cps.toList = 32 :: 47 :: 47 :: ([] ++ 10 :: []) := by rw [h]; decide +kernel
    exact ⟨by rw [h]; decide +kernel, by rw [h]; decide +kernel, by rw [e]; exact .sp (.inl rfl) (.rm rfl (.sp (.inr rfl) .nil)), .inr (.inl ⟨_, _, e, .inl rfl, by rw [h]; decide +kernel⟩)⟩
def tailL : List Str := [" ", "\n", " // the end"]
theorem tail_facts {z : Str} (h : z ∈ tailL) : z.length ≤ 19 ∧ PyData.strOk z = true ∧ (∃ c r, z.cps.toList = c :: r ∧ (c = 32 ∨ c = 10)) ∧ ∀ P : List Nat, nextAt (P ++ z.cps.toList) P.length = (P ++ z.cps.toList).length := by
  have ng : NoGap [] := ⟨fun t => t.elim (fun t => nomatch t) (fun t => nomatch t), fun t => nomatch t.1⟩
  unfold tailL at h
  simp only [List.mem_cons, List.not_mem_nil, or_false] at h
  rcases h with h | h | h
  · have e : z.cps.toList = [32] := by rw [h]; decide +kernel
    refine ⟨by rw [h]; decide +kernel, by rw [h]; decide +kernel, ⟨_, _, e, .inl rfl⟩, fun P => ?_⟩
    have q := nextAt_gap (Gap.sp (.inl rfl) .nil) (P := P) (R := []) ng
    rw [List.append_nil] at q
    rw [e, q, List.length_append]
  · have e : z.cps.toList = [10] := by rw [h]; decide +kernel
    refine ⟨by rw [h]; decide +kernel, by rw [h]; decide +kernel, ⟨_, _, e, .inr rfl⟩, fun P => ?_⟩
    have q := nextAt_gap (Gap.sp (.inr rfl) .nil) (P := P) (R := []) ng
    rw [List.append_nil] at q
    rw [e, q, List.length_append]
  · have e : z.cps.toList = 32 :: 47 :: 47 :: [32, 116, 104, 101, 32, 101, 110, 100] := by rw [h]; decide +kernel
    refine ⟨by rw [h]; decide +kernel, by rw [h]; decide +kernel, ⟨_, _, e, .inl rfl⟩, fun P => ?_⟩
    rw [e]
    have e0 : (P ++ (32 :: 47 :: 47 :: [32, 116, 104, 101, 32, 101, 110, 100]))[P.length]? = some 32 := get_app0
    have e1 : P ++ (32 :: 47 :: 47 :: [32, 116, 104, 101, 32, 101, 110, 100]) = (P ++ [32]) ++ ((47 :: 47 :: [32, 116, 104, 101, 32, 101, 110, 100]) ++ []) := by simp
    have el : P.length + 1 = (P ++ [32]).length := by rw [List.length_append]; rfl
    have e2 : ((P ++ [32]) ++ ((47 :: 47 :: [32, 116, 104, 101, 32, 101, 110, 100]) ++ []))[(P ++ [32]).length]? = some 47 := get_app0
    have e3 : ((P ++ [32]) ++ ((47 :: 47 :: [32, 116, 104, 101, 32, 101, 110, 100]) ++ []))[(P ++ [32]).length + 1]? = some 47 := get_app1
    have f : feedAt ((P ++ [32]) ++ ((47 :: 47 :: [32, 116, 104, 101, 32, 101, 110, 100]) ++ [])) (P ++ [32]).length = (P ++ [32]).length + (47 :: 47 :: [32, 116, 104, 101, 32, 101, 110, 100]).length := runEnd_app (by decide) (fun c hc => by cases hc)
    rw [nextAt_space (.inl e0), e1, el, nextAt_remark ⟨e2, e3⟩, f, nextAt_over (by simp only [List.length_append, List.append_nil]; omega)]
    simp only [List.length_append, List.append_nil]
end
section
variable {P : Program} {w : World} {K : PySem.W.Frag} {mg : Str → Option Value} {base : Heap}
/-- the tokens as data -/
def tokD (t : Str × Str × Nat) : PyData := .tuple [.str t.1, .str t.2.1, .int (t.2.2 : Int)]
theorem TokL.dp {H : Hp} : ∀ {l : List Addr} {ts : List (Str × Str × Nat)}, TokL H l ts → DpAll K H (l.map V.ref) (ts.map tokD)
  | [], [], .nil => .nil
  | _ :: _, _ :: _, .cons a b => .cons (.tup (SqT.of a) (.cons (.str _) (.cons (.str _) (.cons (.int _) .nil)))) (TokL.dp b)
theorem kind_sok (y : Str) (c : Nat) : PyData.strOk (kindOf y c) = true := by
  unfold kindOf
  repeat' split
  all_goals decide +kernel
theorem scan_sok {x : Str} (h : PyData.strOk x = true) : ∀ (n i : Nat), PyData.canLayAll0 ((scan x n i).1.map tokD) = true
  | 0, _ => by rw [scan]; rfl
  | n + 1, i => by
    cases hc : x.cps.toList[i]? with
    | none => rw [scan_none (List.getElem?_eq_none_iff.mp hc)]; rfl
    | some c =>
      rw [scan_some hc]
      split
      · rfl
      · have ih := scan_sok h n (nextAt x.cps.toList (tokEnd x i c))
        show (PyData.canLay0 (tokD _) && PyData.canLayAll0 _) = true
        rw [Bool.and_eq_true]
        refine ⟨?_, ih⟩
        show (PyData.strOk _ && (PyData.strOk _ && (true && true))) = true
        rw [kind_sok, show PyData.strOk (piece x i (tokEnd x i c)) = true from sok_cut h _ _]
        rfl
theorem depth_toks : ∀ ts : List (Str × Str × Nat), PyData.depthAll (ts.map tokD) ≤ 1
  | [] => by decide
  | t :: ts => by
    show max (PyData.depth (tokD t)) (PyData.depthAll (ts.map tokD)) ≤ 1
    have := depth_toks ts
    have e : PyData.depth (tokD t) = 1 := rfl
    omega
theorem toks_shaped {x : Str} (h : PyData.strOk x = true) : SeqAt.shaped (.list ((lexed x).1.map tokD)) = true := by
  unfold SeqAt.shaped
  rw [Bool.and_eq_true, decide_eq_true_eq]
  refine ⟨scan_sok h _ _, ?_⟩
  have := depth_toks (lexed x).1
  show PyData.depthAll ((lexed x).1.map tokD) + 1 ≤ 64
  omega
end
section
variable {P : Program} {w : World} {K : PySem.W.Frag} {mg : Str → Option Value} {base : Heap}
def spLaw (K : PySem.W.Frag) : Sp := fun vs H Q _ => ∃ (a : Addr) (ns : List Int), vs = [.ref a] ∧ SqL K H a (ns.map V.int) ∧ ns.length ≤ 63 ∧ ∀ H', Q (.bl true) H'
/-- what the loop keeps of the text and its tokens -/
structure Kept (x : Str) (ts : List (Str × Str × Nat)) : Prop where
  made : Made x.cps.toList ts
  toks : ∀ t ∈ ts, Tok t.1 t.2.1
  last : ∀ t, ts.getLast? = some t → ∃ P, x.cps.toList = P ++ t.2.1.cps.toList
  ok : PyData.strOk x = true
  none : ts = [] → x.cps.toList = []
theorem kept_nil : Kept "" [] where
  made := made_nil
  toks := fun t h => by cases h
  last := fun t h => by cases h
  ok := by decide +kernel
  none := fun _ => rfl
theorem Kept.fits {x : Str} {ts : List (Str × Str × Nat)} (k : Kept x ts) {S : List Nat} (h : ∀ t, ts.getLast? = some t → Tok t.1 t.2.1 → (∃ P, x.cps.toList = P ++ t.2.1.cps.toList) → Fits t.1 t.2.1.cps.toList S) : FitsL ts S :=
  fun t ht => h t ht (k.toks t (List.mem_of_getLast? ht)) (k.last t ht)
theorem Kept.more {x gs y k2 : Str} {ts : List (Str × Str × Nat)} (k : Kept x ts) (tok : Tok k2 y) (hG : Gap gs.cps.toList) (og : PyData.strOk gs = true) (oy : PyData.strOk y = true) (f : ∀ S, FitsL ts (gs.cps.toList ++ (y.cps.toList ++ S))) : Kept ((x ++ gs) ++ y) (ts ++ [(k2, y, (x ++ gs).length)]) := by
  have el : (x ++ gs).length = (x.cps.toList ++ gs.cps.toList).length := by rw [str_len, Str.cps_append, Array.toList_append]
  have ec : ((x ++ gs) ++ y).cps.toList = x.cps.toList ++ (gs.cps.toList ++ y.cps.toList) := by rw [Str.cps_append, Str.cps_append, Array.toList_append, Array.toList_append, List.append_assoc]
  refine ⟨?_, ?_, ?_, sok_app (sok_app k.ok og) oy, fun e => by simp at e⟩
  · rw [ec, el]
    exact made_more k.made hG tok f
  · intro t ht
    rcases List.mem_append.mp ht with ht | ht
    · exact k.toks t ht
    · rw [List.mem_singleton.mp ht]
      exact tok
  · intro t ht
    rw [List.getLast?_append] at ht
    have ht : (k2, y, (x ++ gs).length) = t := Option.some.inj ht
    rw [← ht, ec]
    exact ⟨x.cps.toList ++ gs.cps.toList, by rw [List.append_assoc]⟩
theorem TokL.last {H : Hp} : ∀ {l : List Addr} {ts : List (Str × Str × Nat)}, TokL H l ts → ts ≠ [] → ∃ l0 p ts0 t, l = l0 ++ [p] ∧ ts = ts0 ++ [t] ∧ H p = some (.tup [.str t.1, .str t.2.1, .int (t.2.2 : Int)])
  | [], [], .nil, h => absurd rfl h
  | [p], [t], .cons a .nil, _ => ⟨[], p, [], t, rfl, rfl, a⟩
  | p :: q :: l, t :: u :: ts, .cons a b, _ => by
    obtain ⟨l0, p', ts0, t', e1, e2, e3⟩ := TokL.last b (by simp)
    exact ⟨p :: l0, p', t :: ts0, t', by rw [e1]; rfl, by rw [e2]; rfl, e3⟩
theorem atI_last {l0 : List V} {v : V} : atI (l0 ++ [v]) (-1) = some v := by
  unfold atI ixN
  rw [if_neg (by decide), List.length_append, List.length_singleton, if_pos (by omega), show ((-1 : Int) + ((l0.length + 1 : Nat) : Int)).toNat = l0.length by omega]
  show (l0 ++ [v])[l0.length]? = some v
  rw [List.getElem?_append_right (Nat.le_refl _), Nat.sub_self]
  rfl
theorem ok_law (T : Top w K mg) : FnOk P w K mg base CX0 8 (He.ga K ("law" : Str)) (fdOf K d_law) ["script"] (spLaw K) := by
  refine (T.f_law).ok sc_law (fun vs H Q E h => ?_) (fun cdv A outer s H vs Q E hr h => ?_)
  · obtain ⟨a, ns, rfl, _⟩ := h
    rfl
  · obtain ⟨a, ns, rfl, hS, h63, k⟩ := h
    refine ⟨_, PSs.nox (pss_cons (ps_set (i := 1) sc_law.nd rfl (Or.inl rfl) (pe_call (ok__law_stream (K := K) T) (hr.mono (by decide)) rfl T.g__law_stream T.f__law_stream.kp T.b__law_stream .nil pass0 (pa_cons (pv 0) pa_nil)))
    (pss_cons (ps_set (i := 2) sc_law.nd rfl (Or.inl rfl) pe_str)
    (pss_cons (ps_set (i := 3) sc_law.nd rfl (Or.inl rfl) (pe_lst pa_nil))
    (pss_cons (ps_for PassesOwn.never rfl (pi_range1 rfl T.n_range (pa_cons (pe_call (ok__law_draw (K := K) T) (hr.mono (by decide)) rfl T.g__law_draw T.f__law_draw.kp T.b__law_draw .nil pass0 (pa_cons (pv 1) (pa_cons pe_int pa_nil))) pa_nil)) (pg_name (i := 4) sc_law.nd rfl (Or.inl rfl))
    (pss_cons (ps_set (i := 5) sc_law.nd rfl (Or.inl rfl) (pe_call (ok__law_token (K := K) T) (hr.mono (by decide)) rfl T.g__law_token T.f__law_token.kp T.b__law_token .nil pass0 (pa_cons (pv 1) pa_nil)))
    (pss_cons (ps_set (i := 6) sc_law.nd rfl (Or.inl rfl) (pe_ix (ix_listK (K := K) rfl) (pe_lst (pa_cons pe_str (pa_cons pe_str (pa_cons pe_str (pa_cons pe_str (pa_cons pe_str pa_nil)))))) (pe_call (ok__law_draw (K := K) T) (hr.mono (by decide)) rfl T.g__law_draw T.f__law_draw.kp T.b__law_draw .nil pass0 (pa_cons (pv 1) (pa_cons pe_int pa_nil))) (fun _ _ => rfl)))
    (C8.pss_cut (ps_if (PW.pt (pw_and (pt_cmpR op_eq (pv 6) pe_str (nomark _)) (pw_and (pt_truth (pv 3) (by intro _; rfl)) (pw_and1 (pt_val (pe_call (ok__law_touch (K := K) T) (hr.mono (by decide)) rfl T.g__law_touch T.f__law_touch.kp T.b__law_touch .nil pass0 (pa_cons (pe_ix (ix_listK (K := K) rfl) (pv 3) (pe_un un_neg pe_int) (fun _ _ => rfl)) (pa_cons (pv 5) pa_nil))))))))
    (pss_one (ps_set (i := 6) sc_law.nd rfl (Or.inl rfl) pe_str))
    pss_nil)
    (C8.pss_cut (ps_if (PW.pt (pw_and (pt_cmpR op_eq (pe_slice sl_str (pv 6) po_none (po_some pe_int)) pe_str (nomark _)) (pw_and1 (pt_cmpR op_eq (pe_slice sl_str (pv 2) (po_some (pe_un un_neg pe_int)) po_none) pe_str (nomark _)))))
    (pss_one (ps_set (i := 6) sc_law.nd rfl (Or.inl rfl) (pe_op op_add_str pe_str (pv 6))))
    pss_nil)
    (pss_cons (ps_set (i := 2) sc_law.nd rfl (Or.inl rfl) (pe_op op_add_str (pv 2) (pv 6)))
    (pss_cons (ps_expr (pe_bm PySem.F.plainAttrs_list PySem.F.slot_list_append PySem.F.type_list_append mt_append (pv 3) (pa_cons (pe_tup (pa_cons (pe_ix (ix_tupK (K := K) rfl) (pv 5) pe_int (fun _ _ => rfl)) (pa_cons (pe_ix (ix_tupK (K := K) rfl) (pv 5) pe_int (fun _ _ => rfl)) (pa_cons (pe_callB call_len_str (by rfl) T.n_len PySem.boot_len (pa_cons (pv 2) pa_nil)) pa_nil)))) pa_nil)))
    (pss_one (ps_set (i := 2) sc_law.nd rfl (Or.inl rfl) (pe_op op_add_str (pv 2) (pe_ix (ix_tupK (K := K) rfl) (pv 5) pe_int (fun _ _ => rfl))))))))))))
    (C8.pss_cut (ps_if (PW.pt (pw_and (pt_truth (pv 3) (by intro _; rfl)) (pw_and1 (pt_cmpR op_eq (pe_call (ok__law_draw (K := K) T) (hr.mono (by decide)) rfl T.g__law_draw T.f__law_draw.kp T.b__law_draw .nil pass0 (pa_cons (pv 1) (pa_cons pe_int pa_nil))) pe_int (nomark _)))))
    (pss_one (ps_set (i := 2) sc_law.nd rfl (Or.inl rfl) (pe_op op_add_str (pv 2) (pe_ix (ix_listK (K := K) rfl) (pe_lst (pa_cons pe_str (pa_cons pe_str (pa_cons pe_str pa_nil)))) (pe_call (ok__law_draw (K := K) T) (hr.mono (by decide)) rfl T.g__law_draw T.f__law_draw.kp T.b__law_draw .nil pass0 (pa_cons (pv 1) (pa_cons pe_int pa_nil))) (fun _ _ => rfl)))))
    pss_nil)
    (pss_cons (ps_set (i := 7) sc_law.nd rfl (Or.inl rfl) (pe_call (ok_tokens (K := K) T) (hr.mono (by decide)) rfl T.g_tokens T.f_tokens.kp T.b_tokens .nil passL (pa_cons (pv 2) pa_nil)))
    (pss_cons (ps_if (PW.pt (pw_or (pt_not (pt_val (pe_callB (call_isiK' (K := K) rfl) (by rfl) T.n_isinstance (by decide +kernel) (pa_cons (pv 7) (pa_cons (pe_bltn (v := .ty "list") rfl T.n_list (by decide +kernel) rfl) pa_nil))))) (pw_or1 (pt_cmpR (op_neDK (K := K) rfl hr.units) (pv 7) (pv 3) (nomark _)))))
    (pss_one (ps_ret pe_bl))
    pss_nil)
    (pss_cons (ps_expr (pe_bm PySem.F.plainAttrs_list PySem.F.slot_list_append PySem.F.type_list_append mt_append (pv 7) (pa_cons pe_int pa_nil)))
    (pss_one (ps_ret (pe_cmpR (op_eqDK (K := K) rfl hr.units) (pe_call (ok_tokens (K := K) T) (hr.mono (by decide)) rfl T.g_tokens T.f_tokens.kp T.b_tokens .nil passL (pa_cons (pv 2) pa_nil)) (pv 3) (nomark _)))))))))))), ?_⟩
    walk_at "go"
    refine ⟨a, ns, rfl, hS, h63, fun s1 H1 e1 hs1 => ?_⟩
    walk_at "go"
    intro l hl
    walk_at "go"
    have hl1 : (upd H1 l (.lst [])) l = some (.lst []) := upd_same
    have hlH : H1 l = none := hl
    have e2 : Same H1 (upd H1 l (.lst [])) := same_new hl
    have hs2 := hs1.mono e2
    refine ⟨hs2, by decide, by decide, fun n n0 n1 => ?_⟩
    walk_at "go"
    refine for_rng (n := n.toNat) (lo := 0) (fun i σ H' => ∃ (x : Str) (as : List Addr) (ts : List (Str × Str × Nat)) (kv tv gv av : Option V), σ = [some (.ref a), some (.ref s1), some (.str x), some (.ref l), kv, tv, gv, av] ∧ Same H1 H' ∧ H' l = some (.lst (as.map V.ref)) ∧ TokL H' as ts ∧ Kept x ts ∧ x.length ≤ 100 * i ∧ as.length ≤ i)
      ⟨"", [], [], _, _, _, _, rfl, e2, hl1, .nil, kept_nil, by show 0 ≤ _; omega, Nat.le_refl _⟩ ?_ ?_
    · rintro i σ H' hi ⟨x, as, ts, kv, tv, gv, av, rfl, e3, hl2, tk, kp, hx, hn⟩
      have hs3 := hs1.mono e3
      walk_at "go"
      intro p k2 y H2 f1 hp tok ly oy
      have hs4 := hs3.mono f1
      walk_at "go"
      intro g hg
      have f2 : Same H2 (upd H2 g (.lst (gapL.map V.str))) := same_new hg
      have hs5 := hs4.mono f2
      have hg2 : (upd H2 g (.lst (gapL.map V.str))) g = some (.lst (gapL.map V.str)) := upd_same
      have hH : upd H2 g (HO.lst [V.str "", V.str " ", V.str "\n  ", V.str "// =+ end {1\n", V.str " //\n"]) = upd H2 g (.lst (gapL.map V.str)) := rfl
      rw [hH]
      generalize upd H2 g (.lst (gapL.map V.str)) = H3 at *
      walk_at "go"
      intro gv2 ga gb
      obtain ⟨gs, hgm, hga⟩ := atI_strs (xs := gapL) ga (by rw [show gapL.length = 5 from rfl]; exact gb)
      refine r_ixL (SqL.of hg2) hga ?_
      walk_at "go"
      have hl3 := f2 _ _ (f1 _ _ hl2)
      have hp3 := f2 _ _ hp
      have tk3 := (tk.mono f1).mono f2
      have e4 := (e3.trans f1).trans f2
      obtain ⟨d0, r0, hy0, _⟩ := tok_head tok
      -- the gap, put in where two tokens would touch
      refine r_cut (fun σ H' => Same H3 H' ∧ ∃ gs : Str, σ = [some (.ref a), some (.ref s1), some (.str x), some (.ref l), some (.int (0 + (i : Int))), some (.ref p), some (.str gs), av] ∧ gs ∈ gapL ∧ (gs = "" → ∀ S, FitsL ts (y.cps.toList ++ S))) ?_ ?_
      · walk_at "go"
        refine ite_d (fun c => ?_) (fun c => ?_)
        · have c := vstr_inj c
          subst c
          walk_at "go"
          refine ⟨_, .inl ⟨_, SqL.of hl3, rfl⟩, ?_⟩
          by_cases hts : ts = []
          · subst hts
            have has : as = [] := by
              have := TokL.len tk
              exact List.eq_nil_of_length_eq_zero this
            subst has
            rw [if_neg (show ¬ ((!(List.map V.ref ([] : List Addr)).isEmpty) = true) by decide)]
            walk_at "go"
            exact ⟨Same.refl _, _, rfl, hgm, fun _ S t ht => nomatch ht⟩
          · obtain ⟨l0, p', ts0, t, ea, et, hp'⟩ := TokL.last tk3 hts
            have hl4 := hl3
            rw [ea, List.map_append] at hl4
            rw [if_pos (show (!(List.map V.ref as).isEmpty) = true by rw [ea, List.map_append]; simp)]
            walk_at "go"
            refine r_ixL (SqL.of hl4) atI_last ?_
            walk_at "go"
            have gl : ts.getLast? = some t := by rw [et, List.getLast?_append]; rfl
            have tt := kp.toks t (List.mem_of_getLast? gl)
            refine ⟨p', p, _, _, _, _, _, d0, rfl, SqT.of hp', SqT.of hp3, by rw [hy0]; rfl, tok_len tt, ly, fun H6 f6 => ?_⟩
            walk_at "go"
            refine ite_b (fun h => ?_) (fun h => ?_)
            · walk_at "go"
              exact fun t => absurd t (by decide +kernel)
            · walk_at "go"
              intro _ S u hu
              rw [gl] at hu
              have hu := Option.some.inj hu
              subst hu
              exact touch_fits tt tok (by rw [hy0]; rfl) h S
        · walk_at "go"
          exact ⟨Same.refl _, _, rfl, hgm, fun t => absurd (congrArg V.str t) c⟩
      · rintro σ H4 ⟨f4, gs, rfl, hgm, hgf⟩
        have hl4 := f4 _ _ hl3
        have hp4 := f4 _ _ hp3
        have tk4 := tk3.mono f4
        have e5 := e4.trans f4
        obtain ⟨gl19, gok, gG, gk⟩ := gap_facts hgm
        have lx : x.length ≤ sizeLine := by rw [sizeLine_eq]; omega
        have lg : gs.length ≤ sizeLine := by rw [sizeLine_eq]; omega
        refine r_cut (fun σ H' => H' = H4 ∧ ∃ gs : Str, σ = [some (.ref a), some (.ref s1), some (.str x), some (.ref l), some (.int (0 + (i : Int))), some (.ref p), some (.str gs), av] ∧ Gap gs.cps.toList ∧ gs.length ≤ 20 ∧ PyData.strOk gs = true ∧ ∀ S, FitsL ts (gs.cps.toList ++ (y.cps.toList ++ S))) ?_ ?_
        · walk_at "go"
          refine ite_d (fun c => ?_) (fun c => ?_)
          · have c := vstr_inj c
            walk_at "go"
            refine ite_d (fun d => ?_) (fun d => ?_)
            · walk_at "go"
              have l1 : (Str.ofString " ").length = 1 := by decide +kernel
              refine ⟨by rw [l1, sizeLine_eq]; omega, rfl, _, rfl, ?_, by rw [Str.length_append, l1]; omega, sok_app (by decide +kernel) gok, fun S => ?_⟩
              · rw [Str.cps_append, Array.toList_append, show (Str.ofString " ").cps.toList = [32] from by decide +kernel]
                exact .sp (.inl rfl) gG
              · rw [Str.cps_append, Array.toList_append, show (Str.ofString " ").cps.toList = [32] from by decide +kernel]
                exact kp.fits fun t _ tt _ => fits_sp tt (.inl rfl)
            · walk_at "go"
              refine ⟨rfl, _, rfl, gG, by omega, gok, fun S => ?_⟩
              rcases gk with g | ⟨c1, r, hr, _, nc⟩ | ⟨⟨r, hr⟩, _⟩
              · rw [g] at c
                exact absurd c (by decide +kernel)
              · exact absurd c nc
              · rw [hr]
                refine kp.fits fun t _ tt h => fits_rem tt fun e => ?_
                obtain ⟨P, h⟩ := h
                rw [e] at h
                exact d (congrArg V.str (last_sign h))
          · walk_at "go"
            refine ⟨rfl, _, rfl, gG, by omega, gok, fun S => ?_⟩
            rcases gk with g | ⟨c1, r, hr, hc, nc⟩ | ⟨_, yc⟩
            · rw [g]
              exact hgf g S
            · rw [hr]
              exact kp.fits fun t _ tt _ => fits_sp tt hc
            · exact absurd (congrArg V.str yc) c
        · rintro σ H5 ⟨rfl, gs, rfl, hG, lG, oG, fG⟩
          have lxg : x.length + gs.length ≤ sizeLine := by rw [sizeLine_eq]; omega
          walk_at "go"
          refine ⟨.inl ⟨rfl, _, SqL.of hl4⟩, ?_⟩
          walk_at "go"
          refine r_ixT (SqT.of hp4) rfl ?_
          walk_at "go"
          refine r_ixT (SqT.of hp4) rfl ?_
          walk_at "go"
          have lz : (x ++ gs).length ≤ sizeLine := by rw [Str.length_append]; exact lxg
          refine ⟨lz, ?_⟩
          walk_at "go"
          refine ⟨by show 3 ≤ sizeLine; decide, fun p2 hp2 => ?_⟩
          walk_at "go"
          have hlp : l ≠ p2 := ne_of_none hl4 hp2
          refine ⟨l, _, _, rfl, rfl, by rw [upd_ne hlp]; exact hl4, by rw [List.length_map, sizeLine_eq]; omega, ?_⟩
          walk_at "go"
          have hpp : p ≠ p2 := ne_of_none hp4 hp2
          have hpl : p ≠ l := ne_of hp4 hl4 (by intro z; cases z)
          refine r_ixT (SqT.of (by rw [upd_ne hpl, upd_ne hpp]; exact hp4)) rfl ?_
          refine ⟨x ++ gs, y, rfl, rfl, by rw [Str.length_append, sizeLine_eq]; omega, (x ++ gs) ++ y, as ++ [p2], ts ++ [(k2, y, (x ++ gs).length)], _, _, _, _, rfl, ?_, ?_, ?_, kp.more tok hG oG oy fG, ?_, ?_⟩
          · intro b u hb
            rw [upd_ne (ne_of_none hb hlH), upd_ne (ne_of_none (e5 _ _ hb) hp2)]
            exact e5 _ _ hb
          · rw [upd_same, List.map_append]
            rfl
          · exact TokL.snoc (by rw [upd_ne (Ne.symm hlp), upd_same]) (TokL.upd (by rw [upd_ne hlp]; exact hl4) (tk4.mono (same_new hp2)))
          · rw [Str.length_append, Str.length_append]
            omega
          · rw [List.length_append, List.length_singleton]
            omega
    · rintro σ H' ⟨x, as, ts, kv, tv, gv, av, rfl, e3, hl2, tk, kp, hx, hn⟩
      have hs3 := hs1.mono e3
      refine r_cut (fun σ H4 => ∃ (x : Str), σ = [some (.ref a), some (.ref s1), some (.str x), some (.ref l), kv, tv, gv, av] ∧ H4 l = some (.lst (as.map V.ref)) ∧ TokL H4 as ts ∧ lexed x = (ts, x.cps.toList.length) ∧ x.length ≤ 10000 ∧ PyData.strOk x = true) ?_ ?_
      · have none_ : lexed x = (ts, x.cps.toList.length) := made_end kp.made (x := x) (G := []) (by rw [List.append_nil]) (kp.fits fun t _ tt _ => fits_nil tt) (nextAt_over (Nat.le_refl _))
        walk_at "go"
        refine ⟨_, .inl ⟨_, SqL.of hl2, rfl⟩, ?_⟩
        refine ite_b (fun h => ?_) (fun h => ?_)
        · walk_at "go"
          intro v3 _ _
          walk_at "go"
          refine ite_d (fun c => ?_) (fun c => ?_)
          · walk_at "go"
            intro g hg
            have f1 : Same H' (upd H' g (.lst (tailL.map V.str))) := same_new hg
            have hs4 := hs3.mono f1
            have hg2 : (upd H' g (.lst (tailL.map V.str))) g = some (.lst (tailL.map V.str)) := upd_same
            have hH : upd H' g (HO.lst [V.str " ", V.str "\n", V.str " // the end"]) = upd H' g (.lst (tailL.map V.str)) := rfl
            rw [hH]
            generalize upd H' g (.lst (tailL.map V.str)) = H3 at *
            walk_at "go"
            intro v4 va vb
            obtain ⟨z, hz, hza⟩ := atI_strs (xs := tailL) va (by rw [show tailL.length = 3 from rfl]; exact vb)
            refine r_ixL (SqL.of hg2) hza ?_
            obtain ⟨z1, z2, ⟨zc, zr, zh, zs⟩, z3⟩ := tail_facts hz
            refine ⟨x, z, rfl, rfl, by rw [sizeLine_eq]; omega, x ++ z, rfl, f1 _ _ hl2, tk.mono f1, ?_, by rw [Str.length_append]; omega, sok_app kp.ok z2⟩
            have ec : (x ++ z).cps.toList = x.cps.toList ++ z.cps.toList := by rw [Str.cps_append, Array.toList_append]
            exact made_end kp.made ec (kp.fits fun t _ tt _ => by rw [zh]; exact fits_sp tt zs) (by rw [ec]; exact z3 _)
          · walk_at "go"
            exact kp.ok
        · walk_at "go"
          exact kp.ok
      · rintro σ H4 ⟨x, rfl, hl4, tk4, lx, hx, ox⟩
        have hx1 : x.cps.toList.length ≤ 100000 := by rw [← str_len]; omega
        walk_at "go"
        have sh : SeqAt.shaped (.list (ts.map tokD)) = true := by
          have q := toks_shaped ox
          rw [lx] at q
          exact q
        have eqv := SeqAt.eqv_refl _ (SeqAt.canLay_of_shaped sh)
        rw [lx]
        refine ⟨fun hb => absurd hb (Nat.lt_irrefl _), fun _ l5 as5 H5 f5 nl5 hl5 tk5 => ?_⟩
        have hl6 := f5 _ _ hl4
        have tk6 := tk4.mono f5
        have tk5 : TokL H5 as5 ts := tk5
        walk_at "go"
        refine r_isi (.base (.lst hl5)) (.ty _) (of_decide_eq_true T.x_kit_t_list_t_list) ?_
        walk_at "go"
        refine ⟨_, _, .lst (SqL.of hl5) tk5.dp, .lst (SqL.of hl6) tk6.dp, sh, sh, ?_⟩
        rw [eqv]
        walk_at "go"
        refine ⟨.inl ⟨rfl, _, SqL.of hl5⟩, ?_⟩
        walk_at "go"
        refine ⟨l5, _, _, rfl, rfl, hl5, ?_, ?_⟩
        · rw [List.length_map, TokL.len tk5, ← TokL.len tk, sizeLine_eq]
          omega
        walk_at "go"
        rw [lx]
        refine ⟨fun hb => absurd hb (Nat.lt_irrefl _), fun _ l7 as7 H7 f7 nl7 hl7 tk7 => ?_⟩
        have tk7 : TokL H7 as7 ts := tk7
        have ll : l ≠ l5 := ne_of_none hl4 nl5
        have hl8 := f7 l _ (by rw [upd_ne ll]; exact hl6)
        have tk8 := (TokL.upd (o := .lst (List.map V.ref as5 ++ [V.int 0])) hl5 tk6).mono f7
        walk_at "go"
        refine ⟨_, _, .lst (SqL.of hl7) tk7.dp, .lst (SqL.of hl8) tk8.dp, sh, sh, ?_⟩
        rw [eqv]
        exact k H7
end
theorem facts {P : Program} {w : World} {K : PySem.W.Frag} {h : Heap} {mg : Str → Option Value} {f : Addr} (X : K.In h) (G : h.Ns mainGlobals mg) (hfa : mg ("law" : Str) = some (.ref f)) (c : SaysS faL fnL exB K) :
    ∃ fd : FuncData, (∀ (s : Shared) (v : Value), BindsTo s fd ⟨[v], []⟩ [("script", v)]) ∧ ∀ base : Heap, K.In base → base.Ns mainGlobals mg → FnOk P w K mg base CX0 8 f fd ["script"] (spLaw K) := by
  have T : Top w K mg := ⟨h, X, G, c⟩
  have e := hfa.symm.trans T.g_law
  cases e
  have b := FunD.bindsA (ps := ["script"]) (show FunD K "law" "law" (defArgs s_law) (defBody s_law) (defScope s_law) [] (d_law.kws K) (He.ga K "law") (fdOf K d_law) from T.f_law) fun _ _ _ _ _ _ us hl => match us, hl with | [_], _ => rfl
  exact ⟨fdOf K d_law, fun s v => b s [v] rfl, fun base _ _ => ok_law T⟩
end Lk
open PySem PySem.W PySem.Calls PyProof.Rows
set_option maxRecDepth 100000 in
set_option maxHeartbeats 0 in
theorem PySem.Challenge.cw_linkwork_k20_tokens_holds : PySem.Challenge.rw_linkwork_k20_tokens.Holds := by
  w_on; o_law
  refine HeadRun.head_any (r := OpenLaw.row PySem.Challenge.rw_linkwork_k20_tokens) (q := Lk.qv) (H := Lk.hk) (ob := Lk.ob) (M := 4000) (loose := Lk.looseL) (d := HandSHeadRun.topDef (OpenLaw.row PySem.Challenge.rw_linkwork_k20_tokens).prog 28) (kwd := []) Lk.ob_eq
    (by kernel_rfl) (fun s => by kernel_rfl) Lk.run (by kernel_rfl) (by kernel_rfl) (by kernel_rfl) (by rfl) (by first | assumption | decide +kernel) (by decide +kernel) ⟨rfl, rfl, rfl, rfl, rfl, by decide +kernel⟩ ?hw ?hc
  case hw => w_witness2
  case hc =>
    refine L2.walk_ofE (l := PySem.Challenge.rw_linkwork_k20_tokens) (n := 63) (k := 8) (x := "script") (CX := L2.CX0) rfl (by decide) (by kernel_rfl) ⟨rfl, by decide, by decide⟩ ?F (fun _ _ _ _ z => z)
    intro w mg fa h Y G hmg0
    obtain ⟨K, KX, c⟩ := Y
    have hmg : mg ("law" : PySem.Str) = some (.ref fa) := by
      have e : (HandSHeadRun.topDef (OpenLaw.row PySem.Challenge.rw_linkwork_k20_tokens).prog 28).name = ("law" : PySem.Str) := by kernel_rfl
      rw [← e]
      exact hmg0
    obtain ⟨fd, hb, hF⟩ := Lk.facts (P := (PySem.Challenge.rw_linkwork_k20_tokens).prog) (w := w) KX G hmg c
    exact ⟨K, fd, Lk.spLaw K, KX, hb, fun H a ns hl _ hS => ⟨a, ns, rfl, hS, hl, fun _ => rfl⟩, hF⟩

