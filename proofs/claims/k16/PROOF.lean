import PyProof.Rows.All
import Wide.All
import OpenK.AllK
import Wide.FinOn
import KE.KStateDown
import HandS.Base
import HandS.Call
import HandS.List
import HandS.Comp
import HandS.Ends
import HandS.Dict
import HandS.Iter
import HandS.Text
import HandS.StrMore
import HandS.More
import HandS.Words
import HandS.WordsList
import HandS.WordsExc
import HandS.Exc
import HandS.ExcOwn
import HandS.ExcIs
import HandS.TryOnly
import HandS.IsInst
import HandS.Codes
import HandS.Defaults
import HandS.Wide
import HandS.Gcd
import KE.KOpsOwn
import KE.HD0
import KE.HD1
import KE.HD2
import KE.HD3
import HandS.Head0
import HandS.Head1
import HandS.Head2
import HandS.HeadEnd
import HandS.HeadHook1
import HandS.HeadHook2
import HandS.HeadHook3
import HandS.HeadHook4
import Flt.Len
import PyProof.NoPylong
import HandS.ExcInit
import HandS.ExcField
import HandS.FStr
import HandS.Evl
import HandS.WideBits
import HandS.Style
import HandS.Walk
import HandS.OwnEq
import HandS.Finally
import HandS.DictComp
import HandS.MakeKw
import HandS.More
import KE.SortData
import PySem.Challenge.RW_linkwork_k16_equations_of_sets
set_option Elab.async false
set_option linter.all false
set_option maxRecDepth 100000
namespace Lk
open PySem PySem.Spec L2
open PyProof.Rows hiding St
/-! ### the head's facts, the interpreter's own statics among what is written -/
def asS (g : Addr → Option Obj) (n : Nat) : List Addr := He.asD g n ++ [cStatics]
abbrev AlS : Type := He.AlD × Bool
def obsS (n : Nat) (fa : List He.Fa) (fn : List He.DefD) (ex : PySem.W.Frag → Bool) (g : Addr → Option Obj) : AlS := (He.obsD fa fn (He.frT g (asS g n)), ex (He.frT g (asS g n)))
structure SaysS (fa : List He.Fa) (fn : List He.DefD) (ex : PySem.W.Frag → Bool) (K : PySem.W.Frag) : Prop where
  d : He.SaysD fa fn K
  more : ex K = true
def hookS (n : Nat) (fa : List He.Fa) (fn : List He.DefD) (ex : PySem.W.Frag → Bool) : PySem.W.Hook where
  α := AlS
  obs := fun s => obsS n fa fn ex s.heap.get?
  val := fun _ => (He.valD fn, true)
  says := fun _ h => ∃ K : PySem.W.Frag, K.In h ∧ SaysS fa fn ex K
  of := fun _ _ e => ⟨_, He.frT_in, ⟨congrArg (fun z : AlS => z.1) e, congrArg (fun z : AlS => z.2) e⟩⟩
  keeps := fun _ _ _ z k => by
    obtain ⟨K, hK, c⟩ := z
    exact ⟨K, PySem.W.Frag.In.keeps hK k, c⟩
theorem obsS_eq {n : Nat} {fa : List He.Fa} {fn : List He.DefD} {ex : PySem.W.Frag → Bool} {g : Addr → Option Obj} {s : Shared} (h : ∀ a, g a = s.heap.get? a) : obsS n fa fn ex g = (hookS n fa fn ex).obs s := by
  have e : g = s.heap.get? := funext h
  rw [e] <;> rfl
/-! ### .. and tables of the top with text keys -/
abbrev TabS : Type := (PySem.W.Frag → Addr) × List Str
abbrev AlU : Type := AlS × List (Option (List (Option (Str × Int))))
def obsU (n : Nat) (fa : List He.Fa) (fn : List He.DefD) (ex : PySem.W.Frag → Bool) (ts : List TabS) (g : Addr → Option Obj) : AlU := (obsS n fa fn ex g, ts.map fun t => He.dicW (He.frT g (asS g n)) (t.1 (He.frT g (asS g n))))
structure SaysU (fa : List He.Fa) (fn : List He.DefD) (ex : PySem.W.Frag → Bool) (ts : List TabS) (w : World) (K : PySem.W.Frag) : Prop where
  d : He.SaysD fa fn K
  more : ex K = true
  tab : (ts.map fun t => He.dicW K (t.1 K)) = ts.map fun t => some (He.keysIn w.params t.2)
def hookU (n : Nat) (fa : List He.Fa) (fn : List He.DefD) (ex : PySem.W.Frag → Bool) (ts : List TabS) : PySem.W.Hook where
  α := AlU
  obs := fun s => obsU n fa fn ex ts s.heap.get?
  val := fun w => ((He.valD fn, true), ts.map fun t => some (He.keysIn w.params t.2))
  says := fun w h => ∃ K : PySem.W.Frag, K.In h ∧ SaysU fa fn ex ts w K
  of := fun w s e => by
    have e' : obsU n fa fn ex ts s.heap.get? = ((He.valD fn, true), ts.map fun t : TabS => some (He.keysIn w.params t.2)) := e
    have e1 : (obsU n fa fn ex ts s.heap.get?).1 = (He.valD fn, true) := by rw [e']
    have e2 : (obsU n fa fn ex ts s.heap.get?).2 = ts.map fun t : TabS => some (He.keysIn w.params t.2) := by rw [e']
    exact ⟨_, He.frT_in, ⟨congrArg (fun z : AlS => z.1) e1, congrArg (fun z : AlS => z.2) e1, e2⟩⟩
  keeps := fun _ _ _ z k => by
    obtain ⟨K, hK, c⟩ := z
    exact ⟨K, PySem.W.Frag.In.keeps hK k, c⟩
theorem obsU_eq {n : Nat} {fa : List He.Fa} {fn : List He.DefD} {ex : PySem.W.Frag → Bool} {ts : List TabS} {g : Addr → Option Obj} {s : Shared} (h : ∀ a, g a = s.heap.get? a) : obsU n fa fn ex ts g = (hookU n fa fn ex ts).obs s := by
  have e : g = s.heap.get? := funext h
  rw [e] <;> rfl
theorem SaysU.kd {fa : List He.Fa} {fn : List He.DefD} {ex : PySem.W.Frag → Bool} {ts : List TabS} {w : World} {K : PySem.W.Frag} (c : SaysU fa fn ex ts w K) (i : Nat) {t : TabS} (h : ts[i]? = some t) : ∃ es n, KDict K w (t.1 K) es n := by
  have e2 : (ts.map fun t => He.dicW K (t.1 K))[i]? = (ts.map fun t => some (He.keysIn w.params t.2))[i]? := by rw [c.tab]
  rw [List.getElem?_map, List.getElem?_map, h] at e2
  exact He.dicW_ok (Option.some.inj e2)
/-- whether a table holds a text -/
def inTab (K : PySem.W.Frag) (a : Addr) (x : Str) (b : Bool) : Bool := match PySem.W.nsIn K a x with
  | some r => r.isSome == b
  | none => false
theorem inTab_ok {K : PySem.W.Frag} {a : Addr} {x : Str} {b : Bool} (h : inTab K a x b = true) : ∃ r, PySem.W.nsIn K a x = some r ∧ r.isSome = b := by
  unfold inTab at h
  split at h
  · rename_i r e
    exact ⟨r, e, by simpa using h⟩
  · cases h
/-! ### steps of a reading, from the left -/
section
variable {σ : St} {H : Hp} {Q : VK} {ta tb te : TE} {i : Nat} {v x y : V} {nx : St → Hp → Prop} {rt : VK} {bk ct : St → Hp → Prop} {t u : TS} {c : TT}
theorem r_seq (h : t ⟨fun σ H => u ⟨nx, rt, bk, ct⟩ σ H, rt, bk, ct⟩ σ H) : tSeq t u ⟨nx, rt, bk, ct⟩ σ H := h
theorem r_set (h : te σ H fun x H1 => nx (σ.set i (some x)) H1) : tAsg te (gName i) ⟨nx, rt, bk, ct⟩ σ H := h
theorem r_ret (h : te σ H rt) : tRet te ⟨nx, rt, bk, ct⟩ σ H := h
theorem r_next (h : nx σ H) : tNext ⟨nx, rt, bk, ct⟩ σ H := h
theorem r_drop (h : te σ H fun _ H1 => nx σ H1) : tDrop te ⟨nx, rt, bk, ct⟩ σ H := h
theorem r_if (h : c σ H fun b H1 => if b = true then t ⟨nx, rt, bk, ct⟩ σ H1 else u ⟨nx, rt, bk, ct⟩ σ H1) : tIfS c t u ⟨nx, rt, bk, ct⟩ σ H := h
theorem r_brk (h : bk σ H) : tBreak ⟨nx, rt, bk, ct⟩ σ H := h
theorem r_cont (h : ct σ H) : tCont ⟨nx, rt, bk, ct⟩ σ H := h
theorem r_var (e : σ[i]? = some (some v)) (h : Q v H) : tVar i σ H Q := ⟨v, e, h⟩
theorem r_c (h : Q v H) : tC v σ H Q := h
theorem r_op {r : R2} (h : ta σ H fun x H1 => tb σ H1 fun y H2 => r x y H2 Q) : tOp r ta tb σ H Q := h
theorem r_un {r : V → Hp → VK → Prop} (h : ta σ H fun x H1 => r x H1 Q) : tUn r ta σ H Q := h
theorem r_I0 {g : Int → Int → V} {i j : Int} (h : Q (g i j) H) : rI0 g (.int i) (.int j) H Q := ⟨i, j, rfl, rfl, h⟩
theorem r_I {C : Int → Int → Prop} {g : Int → Int → V} {i j : Int} (hc : C i j) (h : Q (g i j) H) : rI C g (.int i) (.int j) H Q := ⟨i, j, rfl, rfl, hc, h⟩
theorem r_U {g : Int → V} {i : Int} (h : Q (g i) H) : rU g (.int i) H Q := ⟨i, rfl, h⟩
theorem r_eq (hs : scal x y = true) (h : Q (.bl (decide (x = y))) H) : rEq x y H Q := ⟨hs, h⟩
theorem r_ne (hs : scal x y = true) (h : Q (.bl (!decide (x = y))) H) : rNe x y H Q := ⟨hs, h⟩
theorem r_test {P : Bool → Hp → Prop} (h : te σ H fun x H' => ∃ k, x = .bl k ∧ P k H') : tTest te σ H P := h
theorem r_B {P : Bool → Hp → Prop} (h : te σ H fun x H' => ∃ k, x = .bl k ∧ P k H') : tB te σ H P := h
theorem r_bl {b : Bool} {P : Bool → Prop} (h : P b) : ∃ k, V.bl b = .bl k ∧ P k := ⟨b, rfl, h⟩
theorem r_nilA {P : List V → Hp → Prop} (h : P [] H) : tNil σ H P := h
theorem r_consA {tr : TA} {P : List V → Hp → Prop} (h : te σ H fun x H1 => tr σ H1 fun xs H2 => P (x :: xs) H2) : tCons te tr σ H P := h
theorem r_call {sp : Sp} {dvs : List V} {E : XK} {t : TA} (h : t σ H fun vs H1 => sp (vs ++ dvs) H1 Q E) : tCall sp dvs E t σ H Q := h
theorem r_callS {sp : Sp} {E : St → XK} {t : TA} (h : t σ H fun vs H1 => sp vs H1 Q (E σ)) : tCallS sp E t σ H Q := h
theorem r_CB {r : List V → Hp → VK → Prop} {t : TA} (h : t σ H fun vs H1 => r vs H1 Q) : tCB r t σ H Q := h
theorem r_tup {t : TA} (h : t σ H fun xs H1 => xs.length ≤ sizeLine ∧ ∀ p, H1 p = none → Q (.ref p) (upd H1 p (.tup xs))) : tTup t σ H Q := h
theorem r_lst {t : TA} (h : t σ H fun xs H1 => xs.length ≤ sizeLine ∧ ∀ p, H1 p = none → Q (.ref p) (upd H1 p (.lst xs))) : tLst t σ H Q := h
theorem r_and {u : TT} {P : Bool → Hp → Prop} (h : c σ H fun k H1 => if k = true then u σ H1 P else P false H1) : tAnd c u σ H P := h
theorem r_or {u : TT} {P : Bool → Hp → Prop} (h : c σ H fun k H1 => if k = true then P true H1 else u σ H1 P) : tOr c u σ H P := h
theorem r_not {P : Bool → Hp → Prop} (h : c σ H fun k H1 => P (!k) H1) : tNot c σ H P := h
theorem r_andV (h : ta σ H fun x H1 => ∃ k, x = .bl k ∧ if k = true then tb σ H1 Q else Q (.bl false) H1) : tAndV ta tb σ H Q := h
theorem r_orV (h : ta σ H fun x H1 => ∃ k, x = .bl k ∧ if k = true then Q (.bl true) H1 else tb σ H1 Q) : tOrV ta tb σ H Q := h
theorem r_notV (h : ta σ H fun x H1 => ∃ k, x = .bl k ∧ Q (.bl (!k)) H1) : tNotV ta σ H Q := h
theorem r_ifE (h : c σ H fun k H1 => if k = true then ta σ H1 Q else tb σ H1 Q) : tIf c ta tb σ H Q := h
theorem r_ixL {K : PySem.W.Frag} {p : Addr} {xs : List V} {i : Int} (hs : SqL K H p xs) (ha : atI xs i = some v) (h : Q v H) : rIxL K (.ref p) (.int i) H Q := ⟨p, xs, i, v, rfl, rfl, hs, ha, h⟩
theorem r_ixT {K : PySem.W.Frag} {p : Addr} {xs : List V} {i : Int} (hs : SqT K H p xs) (ha : atI xs i = some v) (h : Q v H) : rIxT K (.ref p) (.int i) H Q := ⟨p, xs, i, v, rfl, rfl, hs, ha, h⟩
theorem r_fld {K : PySem.W.Frag} {f : Str} (h : ta σ H fun x H1 => ∃ a C dx fs v, x = .ref a ∧ H1 a = some (.ins C dx fs) ∧ Cls K C ∧ NoAttr K C f ∧ fs.lookup f = some v ∧ Q v H1) : tFld K ta f σ H Q := h
theorem r_sub {to ti : TE} {ts : TSet} {D : St → Hp → Prop} (h : to σ H fun o H1 => ti σ H1 fun i H2 => ts o i v H2 fun H3 => D σ H3) : gSub to ti ts v σ H D := h
theorem r_asg {g : TG} (h : te σ H fun x H1 => g x σ H1 nx) : tAsg te g ⟨nx, rt, bk, ct⟩ σ H := h
theorem r_setL {D : Hp → Prop} {p : Addr} {xs : List V} {k : Int} {j : Nat} (hp : H p = some (.lst xs)) (hj : ixN xs.length k = some j) (h : D (upd H p (.lst (xs.set j v)))) : rSetL (.ref p) (.int k) v H D := ⟨p, xs, k, j, rfl, rfl, hp, hj, h⟩
theorem r_par {i j : Nat} {ta : TA} (h : ta σ H fun vs H1 => ∃ v w, vs = [v, w] ∧ nx ((σ.set i (some v)).set j (some w)) H1) : tPar i j ta ⟨nx, rt, bk, ct⟩ σ H := h
theorem r_par2 {v w : V} {P : V → V → Prop} (h : P v w) : ∃ a b, [v, w] = [a, b] ∧ P a b := ⟨v, w, rfl, h⟩
theorem ite_d {p A B : Prop} [Decidable p] (h1 : p → A) (h2 : ¬ p → B) : if decide p = true then A else B := by
  by_cases h : p
  · rw [if_pos (decide_eq_true h)]; exact h1 h
  · rw [if_neg (by simp [h])]; exact h2 h
theorem ite_nd {p A B : Prop} [Decidable p] (h1 : ¬ p → A) (h2 : p → B) : if (!decide p) = true then A else B := by
  by_cases h : p
  · rw [if_neg (by simp [h])]; exact h2 h
  · rw [if_pos (by simp [h])]; exact h1 h
theorem ite_b {b : Bool} {A B : Prop} (h1 : b = true → A) (h2 : b = false → B) : if b = true then A else B := by
  cases b with
  | true => exact if_pos rfl ▸ h1 rfl
  | false => exact if_neg Bool.false_ne_true ▸ h2 rfl
theorem vint_inj {i j : Int} (h : V.int i = V.int j) : i = j := V.int.inj h
theorem vint_ne {i j : Int} (h : ¬ V.int i = V.int j) : ¬ i = j := fun e => h (congrArg V.int e)
theorem vstr_inj {i j : Str} (h : V.str i = V.str j) : i = j := V.str.inj h
end
/-- a module's constant -/
theorem pe_globE {X : Cx} {x : Str} {v : V} {pos : Pos} (hg : Gl X x) (h : ∃ u, X.mg x = some u ∧ RelV v u) (hd : (x == ("__debug__" : Str)) = false := by decide) : PE X (.Name x pos) (tC v) := by
  obtain ⟨u, hm, r⟩ := h
  exact pe_glob hg hm r hd
/-- // of any divisor but 0 below 2 ^ 9000 -/
def CDivG (_ j : Int) : Prop := j ≠ 0 ∧ j.natAbs.log2 < 9000
theorem op_fdivG {X : Cx} : OpR X (binaryOp .FloorDiv) (rI CDivG fun i j => .int (i.fdiv j)) := opI fun i j _ _ _ _ _ hc q => floordiv_int hc.1 q (.inl (PyProof.noPylong_of_log2 hc.2))
theorem cdivG {i j : Int} {b : Nat} (h : j ≠ 0) (hb : j.natAbs < 2 ^ b) (h0 : 0 < b) (h9 : b ≤ 9000) : CDivG i j := ⟨h, Nat.lt_of_lt_of_le (PySem.Flt.log2_lt_of h0 hb) h9⟩
theorem r_int1 {H : Hp} {Q : VK} {i : Int} (h : Q (.int i) H) : (∃ j, [V.int i] = [.int j] ∧ Q (.int j) H) ∨ ∃ k, [V.int i] = [.bl k] ∧ Q (.int (if k then 1 else 0)) H := .inl ⟨i, rfl, h⟩
theorem r_intB {H : Hp} {Q : VK} {k : Bool} (h : Q (.int (if k then 1 else 0)) H) : (∃ j, [V.bl k] = [.int j] ∧ Q (.int j) H) ∨ ∃ k', [V.bl k] = [.bl k'] ∧ Q (.int (if k' then 1 else 0)) H := .inr ⟨k, rfl, h⟩
theorem r_abs {H : Hp} {Q : VK} {i : Int} (h : Q (.int (if i < 0 then -i else i)) H) : ∃ j, [V.int i] = [.int j] ∧ Q (.int (if j < 0 then -j else j)) H := ⟨i, rfl, h⟩
/-! ### one step, at the goal's head -/

theorem r_lenL {K : PySem.W.Frag} {H : Hp} {Q : VK} {p : Addr} {ys : List V} (hs : SqL K H p ys) (h : Q (.int ys.length) H) : ∃ q zs, [V.ref p] = [.ref q] ∧ (SqL K H q zs ∨ SqT K H q zs) ∧ Q (.int zs.length) H := ⟨p, ys, rfl, .inl hs, h⟩
theorem r_lenT {K : PySem.W.Frag} {H : Hp} {Q : VK} {p : Addr} {ys : List V} (hs : SqT K H p ys) (h : Q (.int ys.length) H) : ∃ q zs, [V.ref p] = [.ref q] ∧ (SqL K H q zs ∨ SqT K H q zs) ∧ Q (.int zs.length) H := ⟨p, ys, rfl, .inr hs, h⟩
theorem r_listL {K : PySem.W.Frag} {H : Hp} {Q : VK} {p : Addr} {ys : List V} (hs : SqL K H p ys) (h : ∀ l, H l = none → Q (.ref l) (upd H l (.lst ys))) : ∃ q zs, [V.ref p] = [.ref q] ∧ (SqL K H q zs ∨ SqT K H q zs) ∧ ∀ l, H l = none → Q (.ref l) (upd H l (.lst zs)) := ⟨p, ys, rfl, .inl hs, h⟩
theorem r_sfld {K : PySem.W.Frag} {ta tv : TE} {f : Str} {nx : St → Hp → Prop} {rt : VK} {bk ct : St → Hp → Prop} {σ : St} {H : Hp}
    (h : tv σ H fun y H1 => ta σ H1 fun x H2 => ∃ a C dx fs, x = .ref a ∧ H2 a = some (.ins C dx fs) ∧ Cls K C ∧ NoAttr K C f ∧ fs.length < 1000 ∧ nx σ (upd H2 a (.ins C dx (putF f y fs)))) : sFld K ta tv f ⟨nx, rt, bk, ct⟩ σ H := h
/-! ### how large an int is -/
def Bits (b : Nat) (i : Int) : Prop := i.natAbs < 2 ^ b
theorem Bits.mono {a b : Nat} {i : Int} (h : Bits a i) (l : a ≤ b) : Bits b i := Nat.lt_of_lt_of_le h (Nat.pow_le_pow_right (by decide) l)
theorem Bits.mul {a b : Nat} {i j : Int} (h : Bits a i) (g : Bits b j) : Bits (a + b) (i * j) := wide_lt h g
theorem Bits.add {a b c : Nat} {i j : Int} (h : Bits a i) (g : Bits b j) (l1 : a < c) (l2 : b < c) : Bits c (i + j) := by
  have h2 : i.natAbs < 2 ^ (c - 1) := Bits.mono (b := c - 1) h (by omega)
  have g2 : j.natAbs < 2 ^ (c - 1) := Bits.mono (b := c - 1) g (by omega)
  have e : 2 ^ c = 2 ^ (c - 1) + 2 ^ (c - 1) := by
    obtain ⟨k, rfl⟩ : ∃ k, c = k + 1 := ⟨c - 1, by omega⟩
    rw [Nat.add_sub_cancel, Nat.pow_succ]
    omega
  show (i + j).natAbs < 2 ^ c
  rw [e]
  have := Int.natAbs_add_le i j
  omega
theorem Bits.neg {a : Nat} {i : Int} (h : Bits a i) : Bits a (-i) := by
  show (-i).natAbs < _
  rw [Int.natAbs_neg]
  exact h
theorem Bits.sub {a b c : Nat} {i j : Int} (h : Bits a i) (g : Bits b j) (l1 : a < c) (l2 : b < c) : Bits c (i - j) := by
  rw [Int.sub_eq_add_neg]
  exact Bits.add h g.neg l1 l2
theorem Bits.small {i : Int} {b : Nat} (h : i.natAbs < 18446744073709551616) (l : 64 ≤ b) : Bits b i := Bits.mono (a := 64) (show i.natAbs < 2 ^ 64 from h) l
theorem Bits.mulW {a b : Nat} {i j : Int} (h : Bits a i) (g : Bits b j) (l : a + b + 2 ≤ 1000000) : CMulW i j := wide_mul (h.mono (Nat.le_succ a)) (g.mono (Nat.le_succ b)) (Nat.succ_pos _) (Nat.succ_pos _) (by omega)
theorem Bits.divG {b : Nat} {i j : Int} (h : j ≠ 0) (g : Bits b j) (l : b + 1 ≤ 9000) : CDivG i j := cdivG h (g.mono (Nat.le_succ b)) (Nat.succ_pos _) l
theorem Bits.of_le {b : Nat} {i j : Int} (h : i.natAbs ≤ j.natAbs) (g : Bits b j) : Bits b i := Nat.lt_of_le_of_lt h g
theorem ite_nt {A B : Prop} (h : B) : if (!true) = true then A else B := iteF h
theorem ite_nf {A B : Prop} (h : A) : if (!false) = true then A else B := iteT h
/-! ### the law's stream: a list of the script's copy and three ints; told as ONE thing, so that a draw leaves the abstract heap as it is -/
def okS (j k : Int) : Prop := 0 ≤ j ∧ 0 ≤ k ∧ k < 2147483648
def phiS (s l : Addr) : Heap → Prop := fun h => ∃ (i j k : Int) (t u v : Tok) (n : Nat), h.get? s = some { cls := .type "list", data := .seq #[.ref l, .int i t, .int j u, .int k v] n } ∧ okS j k
def Strm (H : Hp) (s : Addr) : Prop := ∃ (l : Addr) (ns : List Int), H s = some (.ext (phiS s l)) ∧ H l = some (.lst (ns.map V.int)) ∧ ns.length ≤ 63
theorem Strm.mono {H H' : Hp} {s : Addr} (h : Strm H s) (e : Same H H') : Strm H' s := by
  obtain ⟨l, ns, h1, h2, h3⟩ := h
  exact ⟨l, ns, e _ _ h1, e _ _ h2, h3⟩
def cellsV (l : Addr) (i j k : Int) : List V := [.ref l, .int i, .int j, .int k]
theorem Vals.cells {l : Addr} {i j k : Int} {us : List Value} (h : Vals (cellsV l i j k) us) : ∃ t u v, us = [.ref l, .int i t, .int j u, .int k v] := by
  unfold cellsV at h
  cases h with
  | cons r0 h => cases h with
    | cons r1 h => cases h with
      | cons r2 h => cases h with
        | cons r3 h =>
          cases h
          obtain ⟨t, rfl⟩ := r1
          obtain ⟨u, rfl⟩ := r2
          obtain ⟨v, rfl⟩ := r3
          cases (show _ = Value.ref l from r0)
          exact ⟨t, u, v, rfl⟩
section
variable {X : Cx} {pins : List (Addr × Obj)} {σ : St} {H : Hp} {s : Shared} {a l : Addr}
/-- the abstract heap is told otherwise at one address, the heap stays -/
theorem Inv.retell {o o' : HO} (I : Inv X pins σ H s) (ha : H a = some o) (m : Mut (some o)) (m' : Mut (some o')) (new : ObjOk X.prog X.w (upd H a o') s.heap a o') : Inv X pins σ (upd H a o') s := by
  have hx : ∀ b u, H b = some u → ¬ Mut (some u) → b ≠ a := fun b u e nm z => by
    rw [z, ha] at e
    cases e
    exact nm m
  have un : Un X.fs [] H (upd H a o') s.heap s.heap := ⟨fun _ _ e _ _ _ => e, fun b ob e _ _ _ => ⟨ob.slots, e⟩, fun b ob e n _ => by
      rw [upd_ne (show b ≠ a from fun z => by rw [z, ha] at n; cases n)]; exact n, fun b ob e _ => ⟨ob, e⟩,
    fun b xs e => by rw [upd_ne (hx b _ e fun z => z)]; exact e, fun b ob u e => by rw [upd_ne (hx b _ e fun z => z)]; exact e, fun b ps e => ⟨#[], by rw [upd_ne (hx b _ e fun z => z), e]; simp⟩⟩
  have mu : Mut (H a) := by rw [ha]; exact m
  have hk : HOk X.prog X.w (upd H a o') s.heap := by
    obtain ⟨u, hu⟩ := objOk_get (I.hok a _ ha)
    exact I.hok.write mu (.inl rfl) (fun _ _ _ e => e) ⟨u, hu⟩ new
  exact I.un (h' := s.heap) (t' := s.toks) un hk
theorem phi_open {h : Heap} (P : Program) (w : World) (H : Hp) (x : ObjOk P w H h a (.ext (phiS a l))) : ∃ i j k : Int, okS j k ∧ ObjOk P w (upd H a (.lst (cellsV l i j k))) h a (.lst (cellsV l i j k)) := by
  obtain ⟨⟨i, j, k, t, u, v, n, e, hj⟩, _⟩ := x
  exact ⟨i, j, k, hj, (by show 4 ≤ sizeLine; decide), _, n, .cons rfl (.cons ⟨t, rfl⟩ (.cons ⟨u, rfl⟩ (.cons ⟨v, rfl⟩ .nil))), e⟩
theorem phi_close {h : Heap} {P : Program} {w : World} {H H' : Hp} {i j k : Int} (x : ObjOk P w H h a (.lst (cellsV l i j k))) (hj : okS j k) : ObjOk P w H' h a (.ext (phiS a l)) := by
  obtain ⟨_, its, n, r, e⟩ := x
  obtain ⟨t, u, v, rfl⟩ := Vals.cells r
  refine ⟨⟨i, j, k, t, u, v, n, e, hj⟩, ⟨_, e⟩, fun h1 h2 ⟨i, j, k, t, u, v, n, e, hj⟩ st => ⟨i, j, k, t, u, v, n, st _ e, hj⟩⟩
/-- within: the stream's four cells are told; behind: one thing again -/
def shutS (a l : Addr) (N : St → Hp → Prop) : St → Hp → Prop := fun σ H => ∃ i j k : Int, H a = some (.lst (cellsV l i j k)) ∧ okS j k ∧ N σ (upd H a (.ext (phiS a l)))
def shutV (a l : Addr) (N : VK) : VK := fun v H => ∃ i j k : Int, H a = some (.lst (cellsV l i j k)) ∧ okS j k ∧ N v (upd H a (.ext (phiS a l)))
def tOpen (a l : Addr) (t : TS) : TS := fun D σ H => H a = some (.ext (phiS a l)) ∧ ∀ i j k : Int, okS j k → t ⟨shutS a l D.nx, shutV a l D.rt, shutS a l D.bk, shutS a l D.ct⟩ σ (upd H a (.lst (cellsV l i j k)))
theorem Inv.shut {i j k : Int} (I : Inv X pins σ H s) (ha : H a = some (.lst (cellsV l i j k))) (hj : okS j k) : Inv X pins σ (upd H a (.ext (phiS a l))) s :=
  Inv.retell I ha trivial trivial (phi_close (I.hok a _ ha) hj)
theorem r_open {t : TS} {nx : St → Hp → Prop} {rt : VK} {bk ct : St → Hp → Prop} (h : H a = some (.ext (phiS a l))) (k : ∀ i j k : Int, okS j k → t ⟨shutS a l nx, shutV a l rt, shutS a l bk, shutS a l ct⟩ σ (upd H a (.lst (cellsV l i j k)))) : tOpen a l t ⟨nx, rt, bk, ct⟩ σ H := ⟨h, k⟩
theorem pss_open {body : List Stmt} {t : TS} (a l : Addr) (h : PSs X body t) : PSs X body (tOpen a l t) := by
  refine ⟨fun pins s σ H D I q => ?_⟩
  obtain ⟨ha, q⟩ := q
  obtain ⟨i, j, k, hj, ok⟩ := phi_open (a := a) (l := l) X.prog X.w H (I.hok a _ ha)
  refine thn (h.run pins s σ _ _ (Inv.retell (o' := .lst (cellsV l i j k)) I ha trivial trivial ok) (q i j k hj)) fun f s1 z => ?_
  cases f with
  | next =>
    obtain ⟨σ', H', I', i, j, k, e, hj, n⟩ := z
    exact ⟨σ', _, Inv.shut I' e hj, n⟩
  | brk =>
    obtain ⟨σ', H', I', i, j, k, e, hj, n⟩ := z
    exact ⟨σ', _, Inv.shut I' e hj, n⟩
  | cont =>
    obtain ⟨σ', H', I', i, j, k, e, hj, n⟩ := z
    exact ⟨σ', _, Inv.shut I' e hj, n⟩
  | ret u =>
    obtain ⟨v, σ', H', I', r, i, j, k, e, hj, n⟩ := z
    exact ⟨v, σ', _, Inv.shut I' e hj, r, n⟩
/-- a list of four is told as a stream where it is handed back -/
def tShut (t : TS) : TS := fun D σ H => t ⟨D.nx, fun v H' => ∃ (a l : Addr) (i j k : Int), v = .ref a ∧ H' a = some (.lst (cellsV l i j k)) ∧ okS j k ∧ D.rt v (upd H' a (.ext (phiS a l))), D.bk, D.ct⟩ σ H
theorem r_shut {t : TS} {nx : St → Hp → Prop} {rt : VK} {bk ct : St → Hp → Prop} (h : t ⟨nx, fun v H' => ∃ (a l : Addr) (i j k : Int), v = .ref a ∧ H' a = some (.lst (cellsV l i j k)) ∧ okS j k ∧ rt v (upd H' a (.ext (phiS a l))), bk, ct⟩ σ H) : tShut t ⟨nx, rt, bk, ct⟩ σ H := h
theorem pss_shut {body : List Stmt} {t : TS} (h : PSs X body t) : PSs X body (tShut t) := by
  refine ⟨fun pins s σ H D I q => ?_⟩
  refine thn (h.run pins s σ _ _ I q) fun f s1 z => ?_
  cases f with
  | ret u =>
    obtain ⟨v, σ', H', I', r, a, l, i, j, k, rfl, e, hj, n⟩ := z
    exact ⟨_, σ', _, Inv.shut I' e hj, r, n⟩
  | next => exact z
  | brk => exact z
  | cont => exact z
end
/-- what the stream leaves behind is the heap ahead -/
theorem upd_back {H : Hp} {a : Addr} {o o' : HO} (h : H a = some o') : upd (upd H a o) a o' = H := by
  funext b
  by_cases e : b = a
  · rw [e, upd_same, h]
  · rw [upd_ne e, upd_ne e]
theorem upd_back2 {H : Hp} {a : Addr} {o o1 o' : HO} (h : H a = some o') : upd (upd (upd H a o) a o1) a o' = H := by
  rw [upd_upd, upd_back h]
theorem upd_back3 {H : Hp} {a : Addr} {o o1 o2 o' : HO} (h : H a = some o') : upd (upd (upd (upd H a o) a o1) a o2) a o' = H := by
  rw [upd_upd, upd_upd, upd_back h]
/-! ### C(..) where what its __init__ raises is wished for at the slots -/
section
variable {X : Cx} {CX : CXT} {k : Nat} {f C : Addr} {fd : FuncData} {ps : List Str} {sp : Sp} {dvs : List V} {ds : List Value} {E : St → XK} {x : Str} {p pos : Pos} {e : Expr} {es : List Expr} {t : TA}
def tMakeS (C : Addr) (sp : Sp) (dvs : List V) (E : St → XK) (t : TA) : TE := fun σ H Q => t σ H fun vs H1 => ∀ x dx, H1 x = none → H1 dx = none → dx ≠ x →
  sp (.ref x :: (vs ++ dvs)) (upd (upd H1 dx (.own x)) x (.ins C dx [])) (fun v H2 => v = .non ∧ Q (.ref x) H2) (E σ)
theorem make_atS {pins : List (Addr × Obj)} {σ : St} {H : Hp} {s : Shared} {Q : VK} {us : List Value} {vs : List V} (mk : Mk X.K C f) (ok : FnOk X.prog X.w X.K X.mg X.base CX k f fd ps sp) (room : Room (k + 1) X.A) (bd : Binds X.K fd ps ds) (dv : Vals dvs ds)
    (pass : PassesAt CX X σ (E σ)) (I : Inv X pins σ H s) (rel : Vals vs us)
    (ask : ∀ x dx, H x = none → H dx = none → dx ≠ x → sp (.ref x :: (vs ++ dvs)) (upd (upd H dx (.own x)) x (.ins C dx [])) (fun v H2 => v = .non ∧ Q (.ref x) H2) (E σ)) :
    wpAny (model X.prog X.w) X.A (call (.ref C) us) (EP X pins σ Q) X.xe s := by
  let n := s.heap.objs.size
  have want := ask (n + 1) n (I.hok.fresh (Nat.le_succ _)) (I.hok.fresh (Nat.le_refl _)) (by show n ≠ n + 1; omega)
  have J := Inv.made (C := C) I
  have relS : Vals (V.ref (n + 1) :: (vs ++ dvs)) (Value.ref (n + 1) :: (us ++ ds)) := .cons rfl (rel.append dv)
  have many : (Value.ref (n + 1) :: us ++ ds).length = ps.length := relS.length.symm.trans (ok.len _ _ _ _ want)
  have go := ok.run _ X.stack _ _ ⟨Value.ref (n + 1) :: us, []⟩ (Value.ref (n + 1) :: (us ++ ds)) _ _ (E σ) (room.make C us []) (J.env0.make C us []) (bd _ (Value.ref (n + 1) :: us) J.kIn many) relS want
  refine wpAny_call (make_map (f := f) I.kIn mk.makes mk.init (beq_iff_eq.mp mk.fn) (codeAny_mono go fun out s' end_ => ?_))
  match out, end_ with
  | .error e, end_ => exact pass pins _ _ e s' J end_
  | .ok (.ret u), end_ =>
    obtain ⟨v, H', I3, rv, ev, q3⟩ := J.after end_
    cases ev
    exact ⟨rv, V.ref (n + 1), H', I3, rfl, q3⟩
  | .ok .next, end_ => exact end_.elim
  | .ok .brk, end_ => exact end_.elim
  | .ok .cont, end_ => exact end_.elim
theorem pe_makeS (mk : Mk X.K C f) (ok : FnOk X.prog X.w X.K X.mg X.base CX k f fd ps sp) (room : Room (k + 1) X.A) (gl : Gl X x) (gm : X.mg x = some (.ref C)) (bd : Binds X.K fd ps ds) (dv : Vals dvs ds) (pass : ∀ σ, PassesAt CX X σ (E σ))
    (args : PA X (e :: es) t) (d1 : (x == ("__debug__" : Str)) = false := by decide) (d2 : starEach (e :: es) X.env = (false, eval e X.env) :: starEach es X.env := by rfl) (d3 : (backTo pos (starEach es X.env)).any (·.1) = false := by rfl) :
    PE X (.Call (.Name x p) (e :: es) [] pos) (tMakeS C sp dvs E t) :=
  ⟨fun pins s σ H Q I h => wpAny_Call_Name_kw (ld_glob I gl gm (PySem.W.callWith_K (h₀ := X.base) I.ok.mod.kin mk.kp (thn (args.run pos pins s σ H _ I h) fun us s1 ⟨vs, H1, I1, r, q⟩ => ⟨I1.kIn, make_atS mk ok room bd dv (pass σ) I1 r q⟩) d2 d3) d1)⟩
theorem passX {E : XK} (tk : Takes X (fun cls d _ H => E cls d H)) : Passes (L2.CX X.prog X.w) X E := fun pins σ H s e s' I c => passes_call tk (fun _ _ _ _ z => z) pins σ H s e s' I c
end
section
variable {σ : St} {H : Hp} {Q : VK} {C : Addr} {sp : Sp} {dvs : List V} {t : TA}
theorem r_make {E : XK} (h : t σ H fun vs H1 => ∀ x dx, H1 x = none → H1 dx = none → dx ≠ x → sp (.ref x :: (vs ++ dvs)) (upd (upd H1 dx (.own x)) x (.ins C dx [])) (fun v H2 => v = .non ∧ Q (.ref x) H2) E) : tMake C sp dvs E t σ H Q := h
theorem r_makeS {E : St → XK} (h : t σ H fun vs H1 => ∀ x dx, H1 x = none → H1 dx = none → dx ≠ x → sp (.ref x :: (vs ++ dvs)) (upd (upd H1 dx (.own x)) x (.ins C dx [])) (fun v H2 => v = .non ∧ Q (.ref x) H2) (E σ)) : tMakeS C sp dvs E t σ H Q := h
end
/-! ### loops -/
def forR (J : It) (g : TG) (tb : TS) (D : Ends) (σ : St) (H : Hp) : Prop := ∃ W : Nat → Nat → St → Hp → Prop, (∃ m, W 0 m σ H) ∧ ∀ i m σ H, W i m σ H →
  (J.stop i H ∧ D.nx σ H) ∨ (J.go i H ∧ ∃ N : St → Hp → Prop, (∀ σ' H', N σ' H' → ∃ m', m' < m ∧ W (i + 1) m' σ' H') ∧ ∀ x H', J.yld i H x H' → g x σ H' fun σ2 H2 => tb { D with nx := N, ct := N, bk := D.nx } σ2 H2)
section
variable {σ : St} {H : Hp} {wi : TI} {g : TG} {tb : TS} {nx : St → Hp → Prop} {rt : VK} {bk ct : St → Hp → Prop} {ta : TA} {tl : TE} {K : PySem.W.Frag} {a : Addr} {xs : List V} {k : Nat} {c : TT}
theorem r_for (h : wi σ H fun J H1 => forR J g tb ⟨nx, rt, bk, ct⟩ σ H1) : tFor wi g tb ⟨nx, rt, bk, ct⟩ σ H := h
theorem r_iRng1 {R : It → Hp → Prop} (h : ta σ H fun vs H1 => ∃ j : Int, vs = [.int j] ∧ -(2 ^ 62) ≤ j ∧ j < 2 ^ 62 ∧ R (Itr 0 j.toNat) H1) : iRng1 ta σ H R := h
theorem r_iList {R : It → Hp → Prop} (h : tl σ H fun x H1 => ∃ a, x = .ref a ∧ (∃ xs, SqL K H1 a xs) ∧ R (Itl K a) H1) : iList K tl σ H R := h
theorem r_rng1 {i : Int} {P : It → Prop} (h1 : -(2 ^ 62) ≤ i) (h2 : i < 2 ^ 62) (h : P (Itr 0 i.toNat)) : ∃ j : Int, [V.int i] = [.int j] ∧ -(2 ^ 62) ≤ j ∧ j < 2 ^ 62 ∧ P (Itr 0 j.toNat) := ⟨i, rfl, h1, h2, h⟩
theorem r_lstI {P : It → Prop} (hs : SqL K H a xs) (h : P (Itl K a)) : ∃ b, V.ref a = .ref b ∧ (∃ xs, SqL K H b xs) ∧ P (Itl K b) := ⟨a, rfl, ⟨xs, hs⟩, h⟩
theorem for_rng {lo : Int} {n : Nat} (Pv : Nat → St → Hp → Prop) (h0 : Pv 0 σ H) (hs : ∀ i σ H, i < n → Pv i σ H → tb ⟨Pv (i + 1), rt, nx, Pv (i + 1)⟩ (σ.set k (some (.int (lo + (i : Int))))) H) (hd : ∀ σ H, Pv n σ H → nx σ H) :
    forR (Itr lo n) (gName k) tb ⟨nx, rt, bk, ct⟩ σ H := for_range (D := ⟨nx, rt, bk, ct⟩) Pv h0 hs hd
theorem for_lst (Pv : Nat → St → Hp → Prop) (h0 : Pv 0 σ H) (hl : ∀ i σ H, i ≤ xs.length → Pv i σ H → SqL K H a xs) (hs : ∀ i x σ H, xs[i]? = some x → Pv i σ H → tb ⟨Pv (i + 1), rt, nx, Pv (i + 1)⟩ (σ.set k (some x)) H) (hd : ∀ σ H, Pv xs.length σ H → nx σ H) :
    forR (Itl K a) (gName k) tb ⟨nx, rt, bk, ct⟩ σ H := for_list (D := ⟨nx, rt, bk, ct⟩) Pv h0 hl hs hd
/-- a while by a word with a measure; behind the test: ⟨_, fun _ _ n => n, ..⟩ -/
theorem r_while (W : Nat → St → Hp → Prop) (m0 : Nat) (h0 : W m0 σ H) (hs : ∀ m σ H, W m σ H → c σ H fun b H1 => if b = true then ∃ N : St → Hp → Prop, (∀ σ' H', N σ' H' → ∃ m', m' < m ∧ W m' σ' H') ∧ tb ⟨N, rt, nx, N⟩ σ H1 else nx σ H1) :
    tWhile c tb ⟨nx, rt, bk, ct⟩ σ H := ⟨W, ⟨m0, h0⟩, hs⟩
theorem r_cut {t u : TS} (Mid : St → Hp → Prop) (h1 : t ⟨Mid, rt, bk, ct⟩ σ H) (h2 : ∀ σ H, Mid σ H → u ⟨nx, rt, bk, ct⟩ σ H) : C8.tCut t u ⟨nx, rt, bk, ct⟩ σ H := ⟨Mid, h1, h2⟩
end
theorem same_new {H : Hp} {p : Addr} {o : HO} (h : H p = none) : Same H (upd H p o) := fun b u e => by rw [upd_ne (ne_of_none e h)]; exact e
theorem same_mk {H : Hp} {x dx : Addr} {o u : HO} (h1 : H x = none) (h2 : H dx = none) : Same H (upd (upd H dx o) x u) := fun b v e => by
  rw [upd_ne (ne_of_none e h1), upd_ne (ne_of_none e h2)]
  exact e
/-! ### facts of the top that the head tells as Bools -/
def excCB (K : PySem.W.Frag) (D : Addr) : Bool := [He.eqO (PySem.W.findIn K (.ref D) "__getattribute__") (some (some (.builtin "BaseException.__getattribute__"))), He.eqO (PySem.W.findIn K (.ref D) "__getattr__") (some none), decide (PySem.W.subIn K (.ref D) (.type "BaseException") = some true),
  PySem.W.hasDictIn K D, He.eqO (PySem.W.findIn K (.ref D) "__class__") (some (some (.builtin "object.__class__"))), He.eqO (PySem.W.specialIn K (.builtin "object.__class__") "__get__") (some (some (.builtin "getset_descriptor.__get__"))),
  decide (PySem.W.takesIn K (.builtin "object.__class__") = some true), decide (PySem.W.mroIn K D (.type "object") = some true)].all id
theorem all8 {b1 b2 b3 b4 b5 b6 b7 b8 : Bool} (h : [b1, b2, b3, b4, b5, b6, b7, b8].all id = true) : b1 = true ∧ b2 = true ∧ b3 = true ∧ b4 = true ∧ b5 = true ∧ b6 = true ∧ b7 = true ∧ b8 = true := by
  simpa using h
theorem excCB_ok {K : PySem.W.Frag} {D : Addr} (h : excCB K D = true) : ExcC K D := by
  obtain ⟨h1, h2, h3, h4, h5, h6, h7, h8⟩ := all8 h
  exact ⟨He.eqO_ok h1, He.eqO_ok h2, of_decide_eq_true h3, h4, He.eqO_ok h5, He.eqO_ok h6, of_decide_eq_true h7, of_decide_eq_true h8⟩
def isiCB (K : PySem.W.Frag) (D : Addr) : Bool := [He.eqO (PySem.W.findIn K (.ref D) "__class__") (some (some (.builtin "object.__class__"))), He.eqO (PySem.W.specialIn K (.builtin "object.__class__") "__get__") (some (some (.builtin "getset_descriptor.__get__"))),
  decide (PySem.W.takesIn K (.builtin "object.__class__") = some true), decide (PySem.W.mroIn K D (.type "object") = some true), true, true, true, true].all id
theorem isi_ins {K : PySem.W.Frag} {H : Hp} {a D dx : Addr} {fs : List (Str × V)} (h : isiCB K D = true) (c : Cls K D) (e : H a = some (.ins D dx fs)) : TyX K H (.ref a) (.ref D) := by
  obtain ⟨h1, h2, h3, h4, _⟩ := all8 h
  exact .base (.ins e c (He.eqO_ok h1) (He.eqO_ok h2) (of_decide_eq_true h3) (of_decide_eq_true h4))
theorem pss_given {X : Cx} {body : List Stmt} {t : TS} {P : Prop} (h : P → PSs X body t) : PSs X body (fun D σ H => P ∧ t D σ H) := ⟨fun pins s σ H D I q => (h q.1).run pins s σ H D I q.2⟩
theorem r_isi {K : PySem.W.Frag} {H : Hp} {Q : VK} {x c : V} {t u : Value} {b : Bool} (hx : TyX K H x t) (hc : ClsV c u) (e : PySem.W.kitOne K t u = some b) (h : Q (.bl b) H) : rIsi K [x, c] H Q := ⟨x, c, t, u, b, rfl, hc, hx, e, h⟩
/-! ### operators that a class of the program's own defines -/
section
variable {X : Cx} {CX : CXT} {n : Nat} {C g : Addr} {fd : FuncData} {ps : List Str} {sp : Sp} {E : XK}
def rBin (C : Addr) (sp : Sp) (E : XK) : R2 := fun x y H Q => ∃ a b dx dy fs gs, x = .ref a ∧ y = .ref b ∧ H a = some (.ins C dx fs) ∧ H b = some (.ins C dy gs) ∧ sp [.ref a, .ref b] H Q E
theorem back_of {R : Value → Shared → Prop} {z : V} {v : Value} {s' : Shared} (r : RelV z v) (h : R v s') : PySem.W.CmpBack R v s' := by
  cases z with
  | non => cases (show v = Value.none from r); exact h
  | bl b => cases (show v = Value.bool b from r); exact h
  | int i => obtain ⟨t, rfl⟩ := (show ∃ t, v = Value.int i t from r); exact h
  | str i => obtain ⟨t, rfl⟩ := (show ∃ t, v = Value.str i t from r); exact h
  | byt i => obtain ⟨t, rfl⟩ := (show ∃ t, v = Value.bytes i t from r); exact h
  | flt i => obtain ⟨t, rfl⟩ := (show ∃ t, v = Value.float i t from r); exact h
  | ref i => cases (show v = Value.ref i from r); exact h
  | ty i => cases (show v = Value.type i from r); exact h
theorem ins_inst {pins : List (Addr × Obj)} {σ : St} {H : Hp} {s : Shared} {a dx : Addr} {fs : List (Str × V)} (I : Inv X pins σ H s) (h : H a = some (.ins C dx fs)) : ∃ od, PySem.W.InstAt s.heap a (PySem.W.instObj C dx) C (some od) := by
  obtain ⟨mA, J, _⟩ := ins_get I.hok h
  obtain ⟨od, J, _⟩ := J.look
  exact ⟨od, J⟩
theorem op_bin {op : Operator} (first : PySem.W.selfFirst X.K C = true) (m : Meth X.K C (PySem.dunder op.info.2) g) (F : FnOk X.prog X.w X.K X.mg X.base CX n g fd ps sp) (bd : Binds X.K fd ps []) (room : Room n X.A) (pass : Passes CX X E) : OpR X (binaryOp op) (rBin C sp E) := by
  intro pins s σ H x y v u Q I rx ry h
  obtain ⟨a, b, dx, dy, fs, gs, rfl, rfl, ha, hb, q⟩ := h
  cases (show v = Value.ref a from rx)
  cases (show u = Value.ref b from ry)
  obtain ⟨od, J⟩ := ins_inst I ha
  obtain ⟨od', J'⟩ := ins_inst I hb
  obtain ⟨mF, hF⟩ := I.fr
  refine PySem.W.binop_K hF I.ok.mod.kin J J'.type first m.at_ m.fn ?_
  refine wpAny_mono (run_fn (vs := [.ref a, .ref b]) (us := [.ref a, .ref b]) F room bd .nil pass I (.cons rfl (.cons rfl .nil)) (by rw [List.append_nil]; exact q)) (fun w s' z => ?_) fun _ _ e => e
  obtain ⟨z', H', I', rz, qz⟩ := z
  exact back_of rz ⟨z', H', I', rz, qz⟩
def rUnO (C : Addr) (sp : Sp) (E : XK) : V → Hp → VK → Prop := fun x H Q => ∃ a dx fs, x = .ref a ∧ H a = some (.ins C dx fs) ∧ sp [.ref a] H Q E
theorem un_negO (m : Meth X.K C "__neg__" g) (F : FnOk X.prog X.w X.K X.mg X.base CX n g fd ps sp) (bd : Binds X.K fd ps []) (room : Room n X.A) (pass : Passes CX X E) : UnR X (unaryOp .USub) (rUnO C sp E) := by
  intro pins s σ H x v Q I rx h
  obtain ⟨a, dx, fs, rfl, ha, q⟩ := h
  cases (show v = Value.ref a from rx)
  obtain ⟨od, J⟩ := ins_inst I ha
  obtain ⟨mF, hF⟩ := I.fr
  exact PySem.W.ksp_neg hF I.ok.mod.kin J m.at_ m.fn (run_fn (vs := [.ref a]) (us := [.ref a]) F room bd .nil pass I (.cons rfl .nil) (by rw [List.append_nil]; exact q))
/-- == by an own __eq__, both answers -/
theorem op_eqO (m : Meth X.K C "__eq__" g) (F : FnOk X.prog X.w X.K X.mg X.base CX n g fd ps sp) (bd : Binds X.K fd ps []) (room : Room n X.A) (pass : Passes CX X E) : OpR X (compareOp .Eq) (rBin C sp E) := by
  intro pins s σ H x y v u Q I rx ry h
  obtain ⟨a, b, dx, dy, fs, gs, rfl, rfl, ha, hb, q⟩ := h
  cases (show v = Value.ref a from rx)
  cases (show u = Value.ref b from ry)
  obtain ⟨od, J⟩ := ins_inst I ha
  obtain ⟨od', J'⟩ := ins_inst I hb
  obtain ⟨mF, hF⟩ := I.fr
  show wpAny (model X.prog X.w) X.A (richCompare .Eq (.ref a) (.ref b)) (EP X pins σ Q) X.xe s
  refine PySem.W.cmp_K (op := .Eq) (tb := .ref C) room.units0 hF I.ok.mod.kin J J'.type (by simp [PySem.W.notFirst]) m.at_ m.fn ?_
  refine wpAny_mono (run_fn (vs := [.ref a, .ref b]) (us := [.ref a, .ref b]) F room bd .nil pass I (.cons rfl (.cons rfl .nil)) (by rw [List.append_nil]; exact q)) (fun w s' z => ?_) fun _ _ e => e
  obtain ⟨z', H', I', rz, qz⟩ := z
  exact back_of rz ⟨z', H', I', rz, qz⟩
end
/-! ### the rules with the written part by its letter -/
section
variable {X : Cx} {K : PySem.W.Frag} {e o : Expr} {f : Str} {pos pos' : Pos} {ta tv : TE} {value : Expr} {tg : Expr} {tl : TE}
theorem ix_listK (h : X.K = K) : IxR X (rIxL K) := by subst h; exact ix_list
theorem ix_tupK (h : X.K = K) : IxR X (rIxT K) := by subst h; exact ix_tup
theorem call_isiK' (h : X.K = K) : CallR X (.builtin "isinstance") (rIsi K) := by subst h; exact call_isi
theorem call_lenK (h : X.K = K) : CallR X (.builtin "len") (fun xs H Q => ∃ p ys, xs = [.ref p] ∧ (SqL K H p ys ∨ SqT K H p ys) ∧ Q (.int ys.length) H) := by subst h; exact call_len_seq
theorem call_listK (h : X.K = K) : CallR X (.type "list") (fun xs H Q => ∃ p ys, xs = [.ref p] ∧ (SqL K H p ys ∨ SqT K H p ys) ∧ ∀ l, H l = none → Q (.ref l) (upd H l (.lst ys))) := by subst h; exact call_list_of
theorem pe_fldK (h : X.K = K) (he : PE X e ta) (hb : attributeBase e f X.env (eval e X.env) = eval e X.env) : PE X (.Attribute e f pos) (tFld K ta f) := by subst h; exact pe_fld he hb
theorem ps_fldK (h : X.K = K) (ha : PE X o ta) (hv : PE X value tv) (hs : swapsWith value (some (.Attribute o f pos')) pos.line X.env = pure false) : PS X (.Assign [.Attribute o f pos'] value pos) (sFld K ta tv f) := by subst h; exact ps_fld ha hv hs
theorem pi_listK (h : X.K = K) (hl : PE X e tl) : PI X tg e (iList K tl) := by subst h; exact pi_list hl
theorem pi_tupK (h : X.K = K) (hl : PE X e tl) : PI X tg e (iTup K tl) := by subst h; exact pi_tup hl
theorem op_eqDK (h : X.K = K) (hu : X.A.units + 64 < cLine) : OpR X (compareOp .Eq) (rEqD K) := by subst h; exact op_eqD hu
theorem op_neDK (h : X.K = K) (hu : X.A.units + 64 < cLine) : OpR X (compareOp .NotEq) (rNeD K) := by subst h; exact op_neD hu
theorem op_inK (h : X.K = K) : OpR X (compareOp .In) (rIn K false) := by subst h; exact op_in_seq
theorem op_notInK (h : X.K = K) : OpR X (compareOp .NotIn) (rIn K true) := by subst h; exact op_notIn_seq
end
/-! ### a tuple of texts that the module holds -/
def strOf : Value → Option Str
  | .str x _ => some x
  | _ => none
def tupStrs (K : PySem.W.Frag) (a : Addr) (xs : List Str) : Bool := match K.lookup a with
  | some ⟨.type "tuple", _, .seq its _, _⟩ => decide (its.toList.map strOf = xs.map some)
  | _ => false
theorem vals_strs : ∀ (us : List Value) (xs : List Str), us.map strOf = xs.map some → Vals (xs.map V.str) us
  | [], [], _ => .nil
  | [], _ :: _, h => by cases h
  | _ :: _, [], h => by cases h
  | u :: us, x :: xs, h => by
    have h1 := (List.cons.inj h).1
    have h2 := (List.cons.inj h).2
    refine .cons ?_ (vals_strs us xs h2)
    cases u with
    | str y t => exact ⟨t, by rw [Option.some.inj h1]⟩
    | _ => cases h1
theorem tupStrs_ok {K : PySem.W.Frag} {H : Hp} {a : Addr} {xs : List Str} (h : tupStrs K a xs = true) (hl : xs.length ≤ 1000) : SqT K H a (xs.map V.str) := by
  unfold tupStrs at h
  split at h
  · rename_i od its n sl hk
    have e := of_decide_eq_true h
    have l := congrArg List.length e
    rw [List.length_map, List.length_map, Array.length_toList] at l
    exact .inr ⟨_, its, n, hk, rfl, rfl, by rw [l, sizeLine_eq]; omega, vals_strs _ _ e⟩
  · cases h
/-! ### an own exception whose __init__ calls its base's with a text, and keeps one field -/
def lwB (K : PySem.W.Frag) (L : Addr) : Bool := He.eqO (PySem.W.specialIn K (.ref L) "__getattribute__") (some (some (.builtin "type.__getattribute__"))) && (PySem.W.readsIn K L (.type "type") &&
  (match PySem.W.findCls K (.ref L) (.type "type") "__init__" with | some (.val v) => decide (v = .builtin "ValueError.__init__") | _ => false))
theorem lwB_ok {K : PySem.W.Frag} {L : Addr} (h : lwB K L = true) : PySem.W.specialIn K (.ref L) "__getattribute__" = some (some (.builtin "type.__getattribute__")) ∧ PySem.W.readsIn K L (.type "type") = true ∧
    PySem.W.findCls K (.ref L) (.type "type") "__init__" = some (.val (.builtin "ValueError.__init__")) := by
  unfold lwB at h
  obtain ⟨h1, h⟩ := Bool.and_eq_true_iff.mp h
  obtain ⟨h2, h3⟩ := Bool.and_eq_true_iff.mp h
  refine ⟨He.eqO_ok h1, h2, ?_⟩
  split at h3
  · rename_i v e
    rw [e, of_decide_eq_true h3]
  · cases h3
def oexB (K : PySem.W.Frag) (C fI : Addr) : Bool := [(match K.lookup C with
    | some ⟨.type "type", _, .cls cd, sl⟩ => (match cd.mro, sl.toList with
      | .ref D :: bm, [_, _, _, _, some (.builtin n), _] => [decide (D = C), decide (n = "ValueError.__new__"), !cd.hasDel, cd.hasDict, PySem.HandSPX.refsVE bm].all id
      | _, _ => false)
    | _ => false),
  He.eqO (PySem.W.findIn K (.ref C) "__setattr__") (some (some (.builtin "object.__setattr__"))), decide (PySem.W.subIn K (.ref C) (.type "BaseException") = some true), decide (PySem.W.typeIn K (.ref C) = some (.type "type")), PySem.W.keepIn K (.ref C),
  He.eqO (PySem.W.findIn K (.ref C) "__init__") (some (some (.ref fI))), decide (PySem.W.typeIn K (.ref fI) = some (.type "function")), true].all id
theorem oexB_ok {K : PySem.W.Frag} {C fI : Addr} (h : oexB K C fI = true) : OexC K C ∧ PySem.W.findIn K (.ref C) "__init__" = some (some (.ref fI)) ∧ PySem.W.typeIn K (.ref fI) = some (.type "function") := by
  obtain ⟨h1, h2, h3, h4, h5, h6, h7, _⟩ := all8 h
  refine ⟨⟨?_, He.eqO_ok h2, of_decide_eq_true h3, of_decide_eq_true h4, h5⟩, He.eqO_ok h6, of_decide_eq_true h7⟩
  split at h1
  · rename_i dd cd sl ho
    split at h1
    · rename_i D bm k0 k1 k2 k3 n k5 hm hs
      simp only [List.all_cons, List.all_nil, id_eq, Bool.and_true, Bool.and_eq_true, decide_eq_true_eq, Bool.not_eq_true'] at h1
      obtain ⟨rfl, rfl, hdel, hdct, hv⟩ := h1
      obtain ⟨nm, bs, mro, ns, qn, hd, sn, sub, ab, col, del⟩ := cd
      dsimp only at hm hdel hdct
      subst hm hdel hdct
      have hsl : sl = #[k0, k1, k2, k3, some (.builtin "ValueError.__new__"), k5] := by
        obtain ⟨l⟩ := sl
        simp only at hs
        rw [hs]
      subst hsl
      exact ⟨nm, qn, ns, bs, bm, sn, sub, ab, col, dd, k0, k1, k2, k3, k5, ho, hv⟩
    · cases h1
  · cases h1
section
variable {X : Cx} {e : Expr} {es : List Expr} {ta : TA} {x : Str} {L : Addr} {p1 p2 pos : Pos}
theorem pe_lwinit {pl : Sem Bool} (hB : lwB X.K L = true) (hg : Gl X x) (hm : X.mg x = some (.ref L)) (ha : PA X (e :: es) ta) (hdb : (x == ("__debug__" : Str)) = false := by decide)
    (hc : eval (.Call (.Attribute (.Name x p1) "__init__" p2) (e :: es) [] pos) X.env = (do
      let ov ← eval (.Name x p1) X.env
      standAt p2.atName
      let (f, first) ← holding [ov] (getMethod ov "__init__" pl)
      callWith pos f first (backTo pos (starEach (e :: es) X.env)) (backToKw pos (keywordEach [] X.env))) := by rfl)
    (he : starEach (e :: es) X.env = (false, eval e X.env) :: starEach es X.env := by rfl) (hpl : (backTo pos (starEach es X.env)).any (·.1) = false := by rfl) :
    PE X (.Call (.Attribute (.Name x p1) "__init__" p2) (e :: es) [] pos) (tVeI X.K ta) := by
  refine ⟨fun pins s σ H Q I h => ?_⟩
  obtain ⟨b1, b2, b3⟩ := lwB_ok hB
  refine PySem.W.methodCall_KW (ld_glob I hg hm ?_ hdb) hc
  obtain ⟨m, fr⟩ := I.fr
  refine PySem.W.method_of_cls fr I.ok.mod.kin b1 (PySem.W.cls_value (I.ok.mod.kin.keeps fr.keep) b2 b3 (by decide +kernel) ?_)
  show wpAny _ _ (callWith pos (Value.builtin "ValueError.__init__") [] (backTo pos (starEach (e :: es) X.env)) []) _ _ _
  refine PyProof.Rows.callWith_method1 (thn (ha.run pos pins _ σ H _ (I.tok _) h) fun us s1 hu => ?_) he hpl
  obtain ⟨vs, H1, I1, r1, a, C, ws, ev, hl, T, ea, q⟩ := hu
  subst ev
  cases r1 with
  | @cons _ u0 _ ur ra rw' =>
    obtain rfl : u0 = Value.ref a := ra
    exact oinit_ok T I1 ea (by rw [← Paired.length rw', sizeLine_eq]; omega) fun s' J => ⟨.non, H1, J, rfl, q⟩
end
/-- C(i) leaves behind: the class, and its dict with the one field -/
theorem upd_raise {H : Hp} {a d dx : Addr} {o1 o2 o3 o4 : HO} (ha : H a = none) (hd : H d = none) (ne : dx ≠ a) (e : d = dx) : upd (del (upd (upd (upd H a o1) dx o2) a o3) a) d o4 = upd H d o4 := by
  subst e
  funext b
  by_cases h1 : b = d
  · rw [h1, upd_same, upd_same]
  · rw [upd_ne h1, upd_ne h1]
    by_cases h2 : b = a
    · rw [h2, del_same, ha]
    · rw [del_ne h2, upd_ne h2, upd_ne h1, upd_ne h2]
def spExc (K : PySem.W.Frag) (C : Addr) (f : Str) (ok : V → Prop) : Sp := fun vs H Q _ => ∃ (a : Addr) (v : V), vs = [.ref a, v] ∧ H a = some (exo a C none) ∧ ok v ∧ ∀ dx, H dx = none → dx ≠ a → Q .non (upd (upd H dx (exd dx [(f, v)])) a (exo a C (some dx)))
theorem exd_inj {d e : Addr} {fs gs : List (Str × V)} (h : exd d fs = exd d gs) : True := trivial
/-- raise C(v), C's __init__ keeping spExc -/
theorem r_raiseE {K : PySem.W.Frag} {C : Addr} {f : Str} {ok : V → Prop} {t : TA} {σ : St} {H : Hp} {Q : XK}
    (h : t σ H fun vs H1 => ∃ v, vs = [v] ∧ ok v ∧ ∀ d, H1 d = none → Q (.ref C) (some d) (upd H1 d (.xd [(f, v)]))) (mono : ∀ P P' : List V → Hp → Prop, (∀ vs H1, P vs H1 → P' vs H1) → t σ H P → t σ H P') : tMkO C (spExc K C f ok) [] t σ H Q := by
  refine mono _ _ (fun vs H1 q => ?_) h
  obtain ⟨v, rfl, hv, k⟩ := q
  refine ⟨by show 1 ≤ 1000; decide, fun a ha => ⟨a, v, rfl, upd_same, hv, fun dx hdx ne => ⟨rfl, dx, [(f, v)], upd_same, by rw [upd_ne ne, upd_same], ?_, ?_⟩⟩⟩
  · rw [upd_ne ne] at hdx
    exact hdx
  · have hd : H1 dx = none := by
      rw [upd_ne ne] at hdx
      exact hdx
    rw [upd_raise ha hd ne rfl]
    exact k dx hd
theorem op_mul_str {X : Cx} : OpR X (binaryOp .Mult) (fun x y H Q => ∃ z n, x = .str z ∧ y = .int n ∧ MulOk z n ∧ Q (.str (Txt.mul z n)) H) := by
  intro pins s σ H x y v u Q I rx ry h
  obtain ⟨z, n, rfl, rfl, hz, q⟩ := h
  obtain ⟨t, rfl⟩ := rx
  obtain ⟨t', rfl⟩ := ry
  exact PySem.SB.mul hz fun t' tk => ⟨.str (Txt.mul z n), H, I.tok _, ⟨_, rfl⟩, q⟩
section
variable {σ : St} {H : Hp} {g : TG} {tb : TS} {nx : St → Hp → Prop} {rt : VK} {bk ct : St → Hp → Prop} {tl : TE} {K : PySem.W.Frag} {a : Addr} {xs : List V} {k : Nat}
theorem r_iTup {R : It → Hp → Prop} (h : tl σ H fun x H1 => ∃ a, x = .ref a ∧ (∃ xs, SqT K H1 a xs) ∧ R (Itt K a) H1) : iTup K tl σ H R := h
theorem r_tupI {P : It → Prop} (hs : SqT K H a xs) (h : P (Itt K a)) : ∃ b, V.ref a = .ref b ∧ (∃ xs, SqT K H b xs) ∧ P (Itt K b) := ⟨a, rfl, ⟨xs, hs⟩, h⟩
theorem for_tpl (Pv : Nat → St → Hp → Prop) (h0 : Pv 0 σ H) (hl : ∀ i σ H, i ≤ xs.length → Pv i σ H → SqT K H a xs) (hs : ∀ i x σ H, xs[i]? = some x → Pv i σ H → tb ⟨Pv (i + 1), rt, nx, Pv (i + 1)⟩ (σ.set k (some x)) H) (hd : ∀ σ H, Pv xs.length σ H → nx σ H) :
    forR (Itt K a) (gName k) tb ⟨nx, rt, bk, ct⟩ σ H := for_tup (D := ⟨nx, rt, bk, ct⟩) Pv h0 hl hs hd
theorem r_tXf {x : V} {cls : Value} {d : Option Addr} {C : Addr} {f : Str} {te : TE} {Q : VK} (h : te σ H fun x H1 => x = .ref a ∧ cls = .ref C ∧ ∃ (dd : Addr) (fs : List (Str × V)) (v : V), d = some dd ∧ H1 dd = some (.xd fs) ∧ fs.lookup f = some v ∧ Q v H1) : tXf a cls d C f te σ H Q := h
end
/-! ### isinstance of a caught error that has a dict of its own -/
namespace Xd
open PySem.W PySem.Calls
section
variable {prog : Program} {w : World} {A : Around} {E : Value → Shared → Prop} {s : Shared} {K : Frag} {x D : Addr} {ox : Obj}
theorem find_cls {od : Option Obj} (C : ExcC K D) : findObj K D od "__class__" = some (.bind (.builtin "getset_descriptor.__get__") (.builtin "object.__class__")) := by
  obtain ⟨cd, hc, _⟩ := any_some C.hd
  unfold findObj
  rw [hc, Option.bind_some, C.ha, Option.bind_some]
  simp [C.hn, C.ht]
theorem cls_of {Q : Option Value → Shared → Prop} {od : Option Obj} (C : ExcC K D) (X : K.In s.heap) (I : PySem.W.InstAt s.heap x ox D od) (h : Q (some (.ref D)) { s with toks := s.toks + 1 }) : wpAny (model prog w) A (getAttr? (.ref x) "__class__") Q E s := by
  have hf := find_cls (od := od) C
  obtain ⟨hp, g, d, t, os⟩ := s
  have T0 := I.type (M := model prog w)
  have T1 := looks_findIn (M := model prog w) X C.hg
  have T2 := looks_findIn (M := model prog w) X C.hk
  have T3 := looks_find (M := model prog w) X I hf
  have sub : Looks (model prog w) hp (isInstance (.ref x) (.type "BaseException")) true := T0.andThen (looks_subIn X C.hs)
  have n2 : (Value.builtin "BaseException.__getattribute__" == Value.builtin "object.__getattribute__") = false := by decide +kernel
  unfold getAttr? getAttrBy? getAttrBy
  refine wpAny_bind (wpAny_mkText (wpAny_bind (wpAny_attempt (wpAny_holding (wpAny_bind (T0.at (wpAny_bind (T1.at ?_))))))))
  show wpAny _ _ (if (onTheHeap (Value.ref D) && Value.builtin "BaseException.__getattribute__" == Value.builtin "object.__getattribute__") = true then _ else _) _ _ _
  rw [n2, Bool.and_false, if_neg Bool.false_ne_true]
  (unfold getAttrByItsOwn hookBefore; refine wpAny_bind ?_; rw [if_pos (show onTheHeap (Value.ref D) = true from rfl)])
  refine T2.at (wpAny_bind (wpAny_attempt (wpAny_holding ?_)))
  (unfold callGetattribute; rw [show (false && onTheHeap (Value.builtin "BaseException.__getattribute__")) = false from rfl, if_neg Bool.false_ne_true])
  (unfold boundAndCalled; rw [PySem.F.excAttr_ValueError.ga.bind (.ref x)])
  refine wpAny_bind (wpAny_pure ?_)
  show wpAny _ _ (call (.builtin "BaseException.__getattribute__") [.ref x, .str "__class__" t]) _ _ _
  refine wpAny_call (codeAny_call_builtin PySem.F.excAttr_ValueError.ga.plain PySem.F.entry_bexc_ga (@check_slot (model prog w) _ _ ⟨hp, g, d, t + 1, os⟩ "BaseException.__getattribute__" "BaseException" "__getattribute__" (.ref x) [.str "__class__" t] [] _ (by decide +kernel) (by decide +kernel) sub (PySem.F.args_bexc_ga (.ref x) (.str "__class__" t)) ?_))
  (unfold Builtin.«object.__getattribute__»; refine wpAny_bind (wpAny_of_eq (a := ((Value.ref x : Value), [Value.str "__class__" t])) (by first | rfl | (simp only [slotArgs]; rfl)) ?_))
  refine wpAny_bind (wpAny_pure (wpAny_bind (T0.at (wpAny_bind (T3.at ?_)))))
  show wpAny _ _ (holding [Value.builtin "object.__class__"] (call (.builtin "getset_descriptor.__get__") [.builtin "object.__class__", .ref x, .ref D]) >>= ret) _ _ _
  refine wpAny_bind (wpAny_holding (wpAny_call (class_get (s := ⟨hp, g, d, t + 1, os⟩) (ox := ox) (od := od) X I C.hm (wpAny_pure ?_))))
  (show wpAny _ _ (handedOut (.ref D)) _ _ _; rw [handedOut_of (v := .ref D) rfl])
  first
    | exact wpAny_pure (wpAny_pure h)
    | exact wpAny_pure (wpAny_bind (wpAny_pure (wpAny_pure h)))
theorem not_cls {h : Heap} {o : Obj} {D' : Addr} (hd : hasDictIn K D = true) (X : K.In h) (e : h.get? D' = some o) (hs : ∀ cd, o.data ≠ .cls cd) : D ≠ D' := fun z => by
  obtain ⟨cdD, hcD, _⟩ := any_some hd
  unfold clsIn at hcD
  split at hcD
  · rename_i c' d' cd' sl' ho
    rw [← z, X _ _ ho] at e
    cases e
    exact hs cd' rfl
  · cases hcD
theorem kit (C : ExcC K D) : KitX K (.ref x) (.ref D) (fun h => ∃ od, PySem.W.InstAt h x ox D od) where
  ty := fun M h X I => by
    obtain ⟨od, I⟩ := I
    exact I.type
  it := fun M h X _ => (handS_kitx_exc (x := x) (ox := ox) C.hg C.hk C.hs C.hd C.ha C.hn C.ht C.hm).it M h X |> fun f => by
    obtain ⟨cdD, hcD, _⟩ := any_some C.hd
    unfold clsIn at hcD
    split at hcD
    · rename_i c' d' cd' sl' ho
      intro A' Q' E' s' k q
      (unfold isType loadHead; exact wpAny_bind (wpAny_loadPart (k _ _ (X _ _ ho)) (wpAny_pure q)))
    · cases hcD
  ne := fun h tp dd its n sl X htp => Bool.eq_false_iff.mpr fun q => not_cls C.hd X htp (fun cd z => by cases z) (Value.ref.inj (beq_iff_eq.mp q))
  ca := fun X I k => by
    obtain ⟨od, I⟩ := I
    exact cls_of C X I k
end
end Xd
def rIsD (K : PySem.W.Frag) (D a : Addr) (d : Option Addr) : List V → Hp → VK → Prop := fun xs H Q => ∃ (c : V) (cv : Value) (b : Bool) (dd : Addr) (fs : List (Str × V)), xs = [.ref a, c] ∧ (∀ u, RelV c u → u = cv) ∧ PySem.W.kitOne K (.ref D) cv = some b ∧ d = some dd ∧ H dd = some (.xd fs) ∧ Q (.bl b) H
theorem call_isD {X : Cx} {a D : Addr} {d : Option Addr} {oe : Obj} {pn : List (Addr × Obj)} {cls : Value} (ec : cls = .ref D) (C : ExcC X.K D) (hz : Zc cls d oe) (hf : ∃ vs, oe.data = .fields vs) : CallR (X.suite a ((a, oe) :: pn)) (.builtin "isinstance") (rIsD X.K D a d) := by
  intro pins s σ H xs us Q I r h
  subst ec
  obtain ⟨c, cv, b, dd, fs, rfl, hcv, e, rfl, hdd, q⟩ := h
  cases r with
  | cons rx rr =>
    cases rr with
    | cons rt rr =>
      cases rr
      cases rx
      obtain rfl := hcv _ rt
      obtain ⟨hget, _⟩ := I.pin (a, oe) (List.mem_append.mpr (.inl List.mem_cons_self))
      obtain ⟨vs, hv⟩ := hf
      obtain ⟨od, hod⟩ := objOk_get (I.hok dd _ hdd)
      have J : PySem.W.InstAt s.heap a oe D (some od) := by
        obtain ⟨oc, ob, oda, osl⟩ := oe
        obtain ⟨h1, h2⟩ := hz
        (dsimp only at h1 h2 hv; subst h1 h2 hv)
        exact ⟨hget, rfl, rfl, hod⟩
      exact PySem.W.kia_one (Xd.kit C) I.kIn ⟨_, J⟩ e (fun z => nomatch z) fun tk => ⟨.bl b, H, I.kept (t' := tk) fun _ _ z => z, rfl, q⟩
/-! ### what reads as data; sorted of such -/
mutual
inductive DatV (K : PySem.W.Frag) (H : Hp) : V → PyData → Prop
  | non : DatV K H .non .none
  | bl (b : Bool) : DatV K H (.bl b) (.bool b)
  | int (i : Int) : DatV K H (.int i) (.int i)
  | str (x : Str) : DatV K H (.str x) (.str x)
  | tup {a : Addr} {xs : List V} {ds : List PyData} : SqT K H a xs → DatsV K H xs ds → DatV K H (.ref a) (.tuple ds)
inductive DatsV (K : PySem.W.Frag) (H : Hp) : List V → List PyData → Prop
  | nil : DatsV K H [] []
  | cons {x : V} {d : PyData} {xs : List V} {ds : List PyData} : DatV K H x d → DatsV K H xs ds → DatsV K H (x :: xs) (d :: ds)
end
section
variable {X : Cx} {pins : List (Addr × Obj)} {σ : St} {H : Hp} {s : Shared}
mutual
theorem DatV.reads (I : Inv X pins σ H s) : ∀ (x : V) (d : PyData) (u : Value), DatV X.K H x d → RelV x u → ∃ as, Reads s.heap u d as
  | _, _, u, h, r => by
    cases h with
    | non => cases r; exact ⟨_, .none⟩
    | bl b => cases r; exact ⟨_, .bool b⟩
    | int i => obtain ⟨t, rfl⟩ := r; exact ⟨_, .int i t⟩
    | str z => obtain ⟨t, rfl⟩ := r; exact ⟨_, .str z t⟩
    | tup hs hd =>
      cases r
      obtain ⟨its, rv, l1, _⟩ := I.tuple hs
      obtain ⟨o, h1, h2, n, h3⟩ := l1
      obtain ⟨as, ra⟩ := DatsV.reads I _ _ _ hd rv
      exact ⟨_, .tuple h1 h2 h3 (by simpa using ra)⟩
theorem DatsV.reads (I : Inv X pins σ H s) : ∀ (xs : List V) (ds : List PyData) (us : List Value), DatsV X.K H xs ds → Vals xs us → ∃ as, ReadsAll s.heap us ds as
  | _, _, us, h, r => by
    cases h with
    | nil => cases r; exact ⟨_, .nil⟩
    | cons h1 h2 =>
      cases r with
      | cons r1 r2 =>
        obtain ⟨as, q1⟩ := DatV.reads I _ _ _ h1 r1
        obtain ⟨bs, q2⟩ := DatsV.reads I _ _ _ h2 r2
        exact ⟨_, .cons q1 q2⟩
end
end
abbrev VD : Type := V × PyData
def sortD (bs : List VD) : List VD := bs.mergeSort (PySem.W.dataLe false (fun b : VD => b.2))
theorem sortD_perm (bs : List VD) : (sortD bs).Perm bs := List.mergeSort_perm _ _
def rSortedD (K : PySem.W.Frag) : List V → Hp → VK → Prop := fun vs H Q => ∃ (a : Addr) (bs : List VD), vs = [.ref a] ∧ SqL K H a (bs.map (·.1)) ∧ (∀ b ∈ bs, DatV K H b.1 b.2 ∧ b.2.depth ≤ 8) ∧ PySem.W.AllAlike (bs.map (·.2)) ∧ PySem.W.Sortable (bs.map (·.2)) ∧
  ∀ p, H p = none → Q (.ref p) (upd H p (.lst ((sortD bs).map (·.1))))
theorem each_vals : ∀ {bs : List VD} {us : List Value}, Vals (bs.map (·.1)) us → PySem.W.EachIs (fun u (b : VD) => RelV b.1 u) us bs
  | [], _, h => by cases h; exact .nil
  | _ :: _, _, h => by
    cases h with
    | cons r rs => exact .cons r (each_vals rs)
theorem vals_each : ∀ {bs : List VD} {us : List Value}, PySem.W.EachIs (fun u (b : VD) => RelV b.1 u) us bs → Vals (bs.map (·.1)) us
  | [], _, h => by cases h; exact .nil
  | _ :: _, _, h => by
    cases h with
    | cons r rs => exact .cons r (vals_each rs)
theorem each_and {R S : Value → VD → Prop} : ∀ {bs : List VD} {us : List Value}, PySem.W.EachIs R us bs → (∀ b ∈ bs, ∀ u, R u b → S u b) → PySem.W.EachIs S us bs
  | [], _, h, _ => by cases h; exact .nil
  | b :: _, _, h, f => by
    cases h with
    | cons r rs => exact .cons (f b List.mem_cons_self _ r) (each_and rs fun b hb => f b (List.mem_cons_of_mem _ hb))
theorem cr_sortedD {X : Cx} (hu : X.A.units + 64 < cLine) : CallR X (.builtin "sorted") (rSortedD X.K) := by
  intro pins s σ H vs us Q I r h
  obtain ⟨a, bs, rfl, hs, hd, hal, hk, q⟩ := h
  obtain ⟨its, rv, hl, hz⟩ := I.list hs
  rw [Vals.ref1 r]
  have e := each_vals rv
  have hL : bs.length ≤ sizeLine := by rw [List.length_map] at hz; exact hz
  refine PySem.W.sorted_data (enc := fun b : VD => b.2) hl.isList e (each_and e fun b hb u ru => DatV.reads I _ _ _ (hd b hb).1 ru) hal hk hL (fun b hb => by have := (hd b hb).2; omega) fun out hlen ho => ?_
  obtain ⟨ep, he'⟩ := PyProof.Rows.sortedAll_at s.heap its out.toArray
  have lo : ((sortD bs).map (·.1)).length ≤ sizeLine := by
    rw [List.length_map, (sortD_perm bs).length_eq]
    exact hL
  exact ⟨.ref _, upd H (s.heap.objs.size + 1) (.lst ((sortD bs).map (·.1))), I.laid (t' := s.toks) (fun _ _ => PyProof.Rows.sortedAll_old) (Nat.le_succ _) ⟨lo, out, ep, vals_each ho, he'⟩, rfl, q _ (I.hok.fresh (Nat.le_succ _))⟩
/-! ### != of equal lists and tuples, == and != of equal dicts, where own ==s are asked on the way -/
namespace NeG
open PySem.SeqAt AutoSeq1 MeetsSeq MeetsSeq2 MeetsSeq3 SeqRoads2 GQ
section
variable {prog : Program} {w : World} {A : Around} {R : Result → Shared → Prop}
theorem nloop (p q : Addr) (N : Nat) (J : Nat → Shared → Prop) (each : ListI prog w A (fun e s' => R (.error e) s') p q N J) (done : ∀ s, J N s → R (.ok (.ret (.bool false))) s) (m : Nat) :
    ∀ j : Nat, N - j = m → j ≤ N → ∀ s, J j s → wpAny (model prog w) A.in1 (Builtin.«list.__eq__.loop» ⟨[.ref p, .ref q, rawInt j, rawInt 3], []⟩) (FinOf prog w A R) (fun e s' => R (.error e) s') s := by
  induction m with
  | zero =>
    intro j hm hj s h
    obtain ⟨xs, ys, n1, n2, gp, gq, zx, zy, _⟩ := each _ _ h
    obtain rfl : j = N := by omega
    have fin := done s h
    obtain ⟨hp, g, d, tk, os⟩ := s
    (wp_walk using wpAny_loadPart' gp, wpAny_loadPart' gq)
    rw [show xs[((j : Nat) : Int).toNat]? = none from by simp; omega, show ys[((j : Nat) : Int).toNat]? = none from by simp; omega]
    (wp_walk using wpAny_loadPart' gp, wpAny_loadPart' gq)
    show R (.ok (.ret (.bool (xs.size != ys.size)))) _
    rw [zx, zy]
    simpa using fin
  | succ m ih =>
    intro j hm hj s h
    obtain ⟨xs, ys, n1, n2, gp, gq, zx, zy, t⟩ := each _ _ h
    have l1 : j < xs.size := by omega
    have l2 : j < ys.size := by omega
    have t := t l1 l2
    obtain ⟨hp, g, d, tk, os⟩ := s
    (wp_walk using wpAny_loadPart' gp, wpAny_loadPart' gq)
    have up : ((j : Int) + 1) = ((j + 1 : Nat) : Int) := by omega
    rw [show xs[((j : Nat) : Int).toNat]? = some xs[j] from by simp [l1], show ys[((j : Nat) : Int).toNat]? = some ys[j] from by simp [l2]]
    refine wpAny_bind (wpAny_mono t (fun r s2 k2 => ?_) fun _ _ z => z)
    obtain ⟨rfl, k2⟩ := k2
    have more := ih (j + 1) (by omega) (by omega) s2 k2
    obtain ⟨hp2, g2, d2, tk2, os2⟩ := s2
    wp_walk
    rw [up]
    exact ⟨plainId_quiet plain_eq_loop _, codeAny_builtin entry_eq_loop (by rw [Around.under_plainId plain_eq_loop _]; exact more)⟩
theorem nlist (p q : Addr) (N : Nat) (J : Nat → Shared → Prop) (each : ListI prog w A (fun e s' => R (.error e) s') p q N J) (done : ∀ s, J N s → R (.ok (.ret (.bool false))) s) {s : Shared} (h : J 0 s) :
    wpAny (model prog w) A.in1 (Builtin.«list.__ne__» ⟨[.ref p, .ref q], []⟩) (FinOf prog w A R) (fun e s' => R (.error e) s') s := by
  obtain ⟨xs, ys, n1, n2, gp, gq, zx, zy, _⟩ := each _ _ h
  have more := nloop (A := A) (R := R) p q N J each done _ 0 rfl (Nat.zero_le _) s h
  obtain ⟨hp, g, d, tk, os⟩ := s
  have sub := AutoSeq1.sub_list_list
  have same : ¬ (xs.size != ys.size) = true := by simp [zx, zy]
  (wp_walk using wpAny_loadPart' gp, wpAny_loadPart' gq)
  exact ⟨plainId_quiet plain_eq_loop _, codeAny_builtin entry_eq_loop (by rw [Around.under_plainId plain_eq_loop _]; exact more)⟩
theorem ntup (p q : Addr) (xs ys : Array Value) (n1 n2 : Nat) (d1 d2 : Option Addr) (sl1 sl2 : Array (Option Value)) (hz : xs.size = ys.size) (J : Nat → Shared → Prop)
    (each : ∀ j (h1 : j < xs.size) (h2 : j < ys.size) s, J j s → wpAny (model prog w) A.in1 (eqBool xs[j] ys[j]) (fun r s' => r = true ∧ J (j + 1) s') (fun e s' => R (.error e) s') s)
    (done : ∀ s, J xs.size s → R (.ok (.ret (.bool false))) s) {s : Shared} (gp : s.heap.get? p = some { cls := .type "tuple", dict := d1, data := .seq xs n1, slots := sl1 }) (gq : s.heap.get? q = some { cls := .type "tuple", dict := d2, data := .seq ys n2, slots := sl2 }) (h : J 0 s) :
    wpAny (model prog w) A.in1 (Builtin.«tuple.__ne__» ⟨[.ref p, .ref q], []⟩) (FinOf prog w A R) (fun e s' => R (.error e) s') s := by
  have sub := AutoSeq1.sub_tuple_tuple
  have zl : (xs.toList.zip ys.toList).length = xs.size := by simp [hz]
  have start := h
  obtain ⟨hp, g, d, tk, os⟩ := s
  (wp_walk using wpAny_loadPart' gp, wpAny_loadPart' gq, wpAny_forIn_list _ (fun rest b s' => b.1 = none ∧ ∃ j, rest = (xs.toList.zip ys.toList).drop j ∧ j ≤ xs.size ∧ J j s') _)
  case turn =>
    rintro ⟨y, x⟩ rest b s' ⟨hb, j, ez, hj, k⟩
    have lj : j < (xs.toList.zip ys.toList).length := Nat.lt_of_not_le fun z => by rw [List.drop_of_length_le z] at ez; cases ez
    have l1 : j < xs.size := zl ▸ lj
    have l2 : j < ys.size := hz ▸ l1
    rw [List.drop_eq_getElem_cons lj] at ez
    injection ez with e1 e2
    obtain rfl : y = xs[j] := by simpa using congrArg Prod.fst e1
    obtain rfl : x = ys[j] := by simpa using congrArg Prod.snd e1
    refine wpAny_bind (wpAny_mono (each j l1 l2 s' k) (fun r s2 k2 => ?_) fun _ _ z => z)
    obtain ⟨rfl, k2⟩ := k2
    wp_walk
    exact ⟨rfl, j + 1, e2, l1, k2⟩
  case fin =>
    rintro ⟨b1, b2⟩ s' ⟨hb, j, ez, hj, k⟩
    (simp only at hb; subst hb)
    have ge : xs.size ≤ j := Nat.le_of_not_lt fun z => by rw [List.drop_eq_getElem_cons (zl.symm ▸ z)] at ez; cases ez
    have fin := done s' ((show j = xs.size from by omega) ▸ k)
    wp_walk
    simpa [Builtin.Tuple.tupleCompareSizes, hz] using fin
  case h => exact ⟨rfl, 0, rfl, Nat.zero_le _, start⟩
end
section
variable {prog : Program} {w : World} {A : Around} {E : Value → Shared → Prop} {s : Shared}
theorem rc_nlist {p q : Addr} {N : Nat} {Q : Value → Shared → Prop} (hu : A.units < cLine) (J : Nat → Shared → Prop) (each : ListI prog w A E p q N J) (done : ∀ s, J N s → Q (.bool false) s) (h : J 0 s) :
    wpAny (model prog w) A (richCompare .NotEq (.ref p) (.ref q)) Q E s := by
  obtain ⟨xs, ys, n1, n2, gp, gq, _, _, _⟩ := each _ _ h
  refine wpAny_richCompare_same_room (op := .NotEq) ⟨_, gp, rfl⟩ ⟨_, gq, rfl⟩ PySem.F.slot_list_ne (call_here PySem.F.slot_list_ne ⟨_, gp, rfl⟩ PySem.F.entry_list_ne (PySem.F.args_list_ne_2 _ _) ?_) hu
  exact nlist (R := wants (fun v s' => v ≠ .notImplemented ∧ Q v s') E) p q N J each (fun s' z => ⟨(fun x => nomatch x), done s' z⟩) h
theorem rc_ntup {p q : Addr} {xs ys : Array Value} {Q : Value → Shared → Prop} (hz : xs.size = ys.size) (hu : A.units < cLine) (J : Nat → Shared → Prop) (gp : s.heap.IsTuple p xs) (gq : s.heap.IsTuple q ys)
    (each : ∀ j (h1 : j < xs.size) (h2 : j < ys.size) s, J j s → wpAny (model prog w) A.in1 (eqBool xs[j] ys[j]) (fun r s' => r = true ∧ J (j + 1) s') E s) (done : ∀ s, J xs.size s → Q (.bool false) s) (h : J 0 s) :
    wpAny (model prog w) A (richCompare .NotEq (.ref p) (.ref q)) Q E s := by
  obtain ⟨⟨c1, d1, t1, sl1⟩, ho, hc, n1, hd⟩ := id gp
  obtain ⟨⟨c2, d2, t2, sl2⟩, ho2, hc2, n2, hd2⟩ := id gq
  (simp only at hc hd hc2 hd2; subst hc hd hc2 hd2)
  refine wpAny_richCompare_same_room (op := .NotEq) ⟨_, ho, rfl⟩ ⟨_, ho2, rfl⟩ PySem.F.slot_tuple_ne (call_here PySem.F.slot_tuple_ne ⟨_, ho, rfl⟩ PySem.F.entry_tuple_ne (PySem.F.args_tuple_ne_2 _ _) ?_) hu
  exact ntup (R := wants (fun v s' => v ≠ .notImplemented ∧ Q v s') E) p q xs ys n1 n2 d1 d2 sl1 sl2 hz J each (fun s' z => ⟨(fun x => nomatch x), done s' z⟩) ho ho2 h
end
end NeG
/-- != gives False for what D says, and only makes objects -/
def RnG (X : Cx) (n : Nat) (D : Eqv) : Prop :=
  ∀ (A : Around) (pins : List (Addr × Obj)) (s : Shared) (σ : St) (H : Hp) (x y : V) (u v : Value), Sub X n A → Inv X pins σ H s → RelV x u → RelV y v → D x y H →
    wpAny (model X.prog X.w) A (richCompare .NotEq u v) (fun r s' => r = .bool false ∧ ∃ H', Inv X pins σ H' s' ∧ Ext H H') X.xe s
section
variable {X : Cx} {n : Nat} {D : Eqv}
theorem rnG_list (hD : Mon D) (h : EqG X n D) : RnG X (n + 1) (DList D) := by
  intro A pins s σ H x y u v sb I rx ry d
  obtain ⟨a, b, xs, ys, rfl, rfl, ha, hb, p⟩ := d
  (cases rx; cases ry)
  refine NeG.rc_nlist (N := xs.length) sb.room.units0 (fun _ s' => LoopI X pins σ H s') (fun i s' q => ?_) (fun s' q => ⟨rfl, q⟩) ⟨H, I, Ext.rfl'⟩
  obtain ⟨H1, I1, e1⟩ := id q
  obtain ⟨_, us, k, r, e⟩ := I1.hok a _ (e1 _ _ ha)
  obtain ⟨_, vs, k2, r2, e2⟩ := I1.hok b _ (e1 _ _ hb)
  exact ⟨us.toArray, vs.toArray, k, k2, e, e2, by rw [List.size_toArray, ← r.length], by rw [List.size_toArray, ← r2.length, ← p.1], fun h1 h2 => turnG hD h sb p r r2 i h1 h2 s' q⟩
theorem rnG_tup (hD : Mon D) (h : EqG X n D) : RnG X (n + 1) (DTup X.K D) := by
  intro A pins s σ H x y u v sb I rx ry d
  obtain ⟨a, b, xs, ys, rfl, rfl, ha, hb, p⟩ := d
  (cases rx; cases ry)
  obtain ⟨us, r, e, _⟩ := I.tuple ha
  obtain ⟨vs, r2, e2, _⟩ := I.tuple hb
  have hz : us.toArray.size = vs.toArray.size := by rw [List.size_toArray, List.size_toArray, ← r.length, ← r2.length]; exact p.1
  exact NeG.rc_ntup hz sb.room.units0 (fun _ s' => LoopI X pins σ H s') e e2 (fun i h1 h2 s' q => turnG hD h sb p r r2 i h1 h2 s' q) (fun s' q => ⟨rfl, q⟩) ⟨H, I, Ext.rfl'⟩
def rNeG (D : Eqv) : R2 := fun x y H Q => D x y H ∧ ∀ H', Ext H H' → Q (.bl false) H'
theorem op_neG (h : RnG X n D) (hr : Room n X.A) : OpR X (compareOp .NotEq) (rNeG D) := by
  intro pins s σ H x y v u Q I rx ry hq
  obtain ⟨d, q⟩ := hq
  show wpAny (model X.prog X.w) X.A (richCompare .NotEq v u) (EP X pins σ Q) X.xe s
  refine wpAny_mono (h X.A pins s σ H x y v u ⟨hr, rfl⟩ I rx ry d) (fun r s' z => ?_) fun _ _ z => z
  obtain ⟨rfl, H', I', e⟩ := z
  exact ⟨.bl false, H', I', rfl, q H' e⟩
end
/-! ### == and != of two dicts of the same keys, whose values are equal one by one, own ==s asked on the way -/
namespace DeG
open PySem.W PySem.Calls
section
variable {prog : Program} {w : World} {K : Type} [DecidableEq K] {knd : KeyKind prog w K} {A : Around} {E : Value → Shared → Prop} {s : Shared}
theorem pairs {nm : String} {a b : Addr} {oa ob : Obj} {es et : Array DictEntry} {p1 p2 : Nat} {ka kb : List (K × Value)} {Q : Bool → Shared → Prop} (na : (a == sysModules) = false) (nb : (b == sysModules) = false)
    (da : oa.data = .dict es p1) (db : ob.data = .dict et p2) (ua : KeysOf knd es) (ub : KeysOf knd et) (va : Pairs knd es.toList ka) (vb : Pairs knd et.toList kb) (hl : ka.length = kb.length) (J : Nat → Shared → Prop)
    (at_ : ∀ i s, J i s → s.heap.get? a = some oa ∧ s.heap.get? b = some ob)
    (each : ∀ i k v s, ka[i]? = some (k, v) → J i s → ∃ y, valueAt kb k = some y ∧ wpAny (model prog w) A (eqBool v y) (fun r s' => r = true ∧ J (i + 1) s') E s)
    (start : J 0 s) (done : ∀ s, J ka.length s → Q true s) : wpAny (model prog w) A (Builtin.Dict.samePairs nm a b) Q E s := by
  have za : ka.length = es.size := (va.length.symm.trans Array.length_toList)
  have zb : kb.length = et.size := (vb.length.symm.trans Array.length_toList)
  have look : ∀ k, findBy knd.is et k = valueAt kb k := fun k => by
    rw [← vb.find k]
    (clear zb vb ub db; obtain ⟨l⟩ := et; simp [findBy])
  have sz : es.size = et.size := by omega
  obtain ⟨g1, g2⟩ := at_ _ _ start
  unfold Builtin.Dict.samePairs Builtin.Dict.showsAll
  rw [if_neg (by rw [na]; exact Bool.false_ne_true), if_neg (by rw [nb]; exact Bool.false_ne_true)]
  refine wpAny_bind (wpAny_pure (wpAny_bind (wpAny_pure (wpAny_bind (wpAny_dictEntries g1 da ?_)))))
  dsimp only
  refine wpAny_bind (wpAny_dictEntries g2 db ?_)
  rw [if_neg (by rw [sz]; simp)]
  refine wpAny_bind (wpAny_dictEpoch g1 da (wpAny_bind ?_))
  rw [Std.Legacy.Range.forIn_eq_forIn_range']
  simp only [Std.Legacy.Range.size, Nat.sub_zero, Nat.add_sub_cancel, Nat.div_one]
  refine wpAny_forIn_list _ (fun rest q s' => q = (none, ()) ∧ ∃ i, rest = List.range' i (es.size - i) ∧ i ≤ es.size ∧ J i s') _ ?_ ?_ _ _ ⟨rfl, 0, by simp, Nat.zero_le _, start⟩
  · rintro x rest q s' ⟨rfl, i, hr, hi, hj⟩
    have lt : i < es.size := Nat.lt_of_not_le fun z => by rw [Nat.sub_eq_zero_of_le z] at hr; simp at hr
    obtain ⟨rfl, hrest⟩ : x = i ∧ rest = List.range' (i + 1) (es.size - (i + 1)) := by
      rw [show es.size - i = (es.size - (i + 1)) + 1 by omega, List.range'_succ] at hr
      exact ⟨(List.cons.inj hr).1, (List.cons.inj hr).2⟩
    obtain ⟨g1, g2⟩ := at_ _ _ hj
    refine wpAny_bind (wpAny_dictEntries g1 da ?_)
    rw [Array.getElem?_eq_getElem lt]
    have lt' : x < ka.length := by rw [za]; exact lt
    obtain ⟨k, v, kv⟩ : ∃ k v, ka[x] = (k, v) := ⟨_, _, rfl⟩
    have kv' : ka[x]? = some (k, v) := by rw [List.getElem?_eq_getElem lt', kv]
    obtain ⟨isk, isv⟩ := va.get? (i := x) (e := es[x]) (k := k) (v := v) (by rw [Array.getElem?_toList]; exact Array.getElem?_eq_getElem lt) kv'
    obtain ⟨k', isk', hh⟩ := ua es[x] (Array.getElem_mem lt)
    rw [knd.inj _ _ _ isk' isk] at hh
    obtain ⟨y, hy, run⟩ := each x k v s' kv' hj
    show wpAny _ _ (holding [es[x].key, es[x].val] _ >>= _) _ _ _
    rw [hh]
    refine wpAny_bind (wpAny_holding (wpAny_bind (wpAny_dictFind_of isk g2 db ub ?_)))
    cases fj : et.findIdx? fun e => knd.is k e.key with
    | none =>
      rw [← look k, findBy_of_findIdx?, fj] at hy
      exact nomatch hy
    | some j =>
      obtain ⟨lj, _, _⟩ := Array.findIdx?_eq_some_iff_getElem.mp fj
      have ev : et[j].val = y := by
        rw [← look k, findBy_of_findIdx?, fj] at hy
        simpa [Array.getElem?_eq_getElem lj] using hy
      refine wpAny_bind (wpAny_dictEntries g2 db ?_)
      rw [Array.getElem?_eq_getElem lj]
      rw [← ev, ← isv] at run
      refine wpAny_holding (wpAny_mono run (fun r s2 z => ?_) fun _ _ z => z)
      obtain ⟨rfl, hj2⟩ := z
      obtain ⟨g1, g2⟩ := at_ _ _ hj2
      show wpAny _ _ (if (!true) = true then _ else _) _ _ _
      rw [if_neg (by decide)]
      refine wpAny_bind (wpAny_dictEpoch g1 da ?_)
      rw [if_neg (by simp)]
      exact wpAny_pure ⟨rfl, x + 1, hrest, lt, hj2⟩
  · rintro q s' ⟨rfl, i, hr, hi, hj⟩
    have e : i = es.size := Nat.le_antisymm hi (Nat.le_of_not_lt fun z => by
      rw [show es.size - i = (es.size - (i + 1)) + 1 by omega, List.range'_succ] at hr
      exact nomatch hr)
    exact wpAny_pure (done s' (by rw [za, ← e]; exact hj))
theorem eqd {a b : Addr} {Q : Value → Shared → Prop} (ta : s.TypeIs (.ref a) "dict") (tb : s.TypeIs (.ref b) "dict") (hu : A.units < cLine)
    (h : ∀ nm, wpAny (model prog w) A.in1 (Builtin.Dict.samePairs nm a b) (fun r s' => Q (.bool r) s') E s) : wpAny (model prog w) A (richCompare .Eq (.ref a) (.ref b)) Q E s := by
  refine wpAny_richCompare_same_room (op := .Eq) ta tb PySem.F.slot_dict_eq (wpAny_call_entry PySem.F.slot_dict_eq ta PySem.F.entry_dict_eq ?_ (PySem.F.args_dict_eq_2 _ _)) hu
  (show wpAny _ _ (Builtin.Dict.dictSlotArgs "__eq__" ⟨[.ref a, .ref b], []⟩ >>= _) _ _ s; refine wpAny_bind ?_; unfold Builtin.Dict.dictSlotArgs)
  refine wpAny_bind (wpAny_notOrdered_dict ta ?_)
  (show wpAny _ _ (pure (Value.ref a, Value.ref b)) _ _ s; refine wpAny_pure (wpAny_bind (wpAny_isInstance (T := "dict") tb PySem.F.sub_dict_dict ?_)))
  (simp only [Bool.not_true, Bool.false_eq_true, if_false]; refine wpAny_bind (wpAny_pure (wpAny_bind (wpAny_pure (wpAny_bind (wpAny_mono (h _) (fun r s' q => ?_) fun _ _ z => z))))))
  refine wpAny_pure ⟨_, rfl, (fun x => nomatch x), ?_⟩
  simpa using q
theorem ned {a b : Addr} {Q : Value → Shared → Prop} (ta : s.TypeIs (.ref a) "dict") (tb : s.TypeIs (.ref b) "dict") (hu : A.units < cLine)
    (h : ∀ nm, wpAny (model prog w) A.in1 (Builtin.Dict.samePairs nm a b) (fun r s' => Q (.bool (!r)) s') E s) : wpAny (model prog w) A (richCompare .NotEq (.ref a) (.ref b)) Q E s := by
  refine wpAny_richCompare_same_room (op := .NotEq) ta tb PySem.F.slot_dict_ne (wpAny_call_entry PySem.F.slot_dict_ne ta PySem.F.entry_dict_ne ?_ (PySem.F.args_dict_ne_2 _ _)) hu
  (show wpAny _ _ (Builtin.Dict.dictSlotArgs "__ne__" ⟨[.ref a, .ref b], []⟩ >>= _) _ _ s; refine wpAny_bind ?_; unfold Builtin.Dict.dictSlotArgs)
  refine wpAny_bind (wpAny_notOrdered_dict ta ?_)
  (show wpAny _ _ (pure (Value.ref a, Value.ref b)) _ _ s; refine wpAny_pure (wpAny_bind (wpAny_isInstance (T := "dict") tb PySem.F.sub_dict_dict ?_)))
  (simp only [Bool.not_true, Bool.false_eq_true, if_false]; refine wpAny_bind (wpAny_pure (wpAny_bind (wpAny_pure (wpAny_bind (wpAny_mono (h _) (fun r s' q => ?_) fun _ _ z => z))))))
  refine wpAny_pure ⟨_, rfl, (fun x => nomatch x), ?_⟩
  cases r <;> exact q
end
end DeG
theorem kv_get {ka : List (Key × V)} {va : List (Key × Value)} (r : KV ka va) : ∀ {i : Nat} {p : Key × V} {q : Key × Value}, ka[i]? = some p → va[i]? = some q → p.1 = q.1 ∧ RelV p.2 q.2 := by
  unfold KV at r
  induction r with
  | nil => intro i p q h; simp at h
  | cons h t ih =>
    intro i p q h1 h2
    cases i with
    | zero => simp at h1 h2; subst h1 h2; exact h
    | succ i => simp at h1 h2; exact ih h1 h2
/-- the abstract heap without two of its things -/
def hide2 (H : Hp) (a b : Addr) : Hp := fun c => if c = a ∨ c = b then none else H c
theorem ext_hide {H H' : Hp} {a b : Addr} (h : ∀ c, c ≠ a → c ≠ b → H' c = H c) : Ext (hide2 H a b) H' := fun c o e => by
  unfold hide2 at e
  split at e
  · cases e
  · rename_i q
    rw [h c (fun z => q (.inl z)) (fun z => q (.inr z))]
    exact e
def DDict (D : Eqv) : Eqv := fun x y H => ∃ (a b : Addr) (ka kb : List (Key × V)), x = .ref a ∧ y = .ref b ∧ a ≠ b ∧ H a = some (.dK ka) ∧ H b = some (.dK kb) ∧ ka.length = kb.length ∧ ∀ (i : Nat) (k : Key) (v : V), ka[i]? = some (k, v) → ∃ u, valV kb k = some u ∧ D v u (hide2 H a b)
section
variable {X : Cx} {n : Nat} {D : Eqv}
theorem dict_run (hD : Mon D) (h : EqG X n D) {A : Around} {pins : List (Addr × Obj)} {s : Shared} {σ : St} {H : Hp} {a b : Addr} {ka kb : List (Key × V)} (sb : Sub X (n + 1) A) (I : Inv X pins σ H s) (ne : a ≠ b) (ha : H a = some (.dK ka)) (hb : H b = some (.dK kb)) (hl : ka.length = kb.length)
    (hv : ∀ (i : Nat) (k : Key) (v : V), ka[i]? = some (k, v) → ∃ u, valV kb k = some u ∧ D v u (hide2 H a b)) (nm : String) :
    s.TypeIs (.ref a) "dict" ∧ s.TypeIs (.ref b) "dict" ∧ wpAny (model X.prog X.w) A.in1 (Builtin.Dict.samePairs nm a b) (fun r s' => r = true ∧ ∃ H', Inv X pins σ H' s' ∧ Ext H H') X.xe s := by
  obtain ⟨od, I1⟩ := I.lock ha trivial
  obtain ⟨ob, I2⟩ := I1.lock (show upd H a (.frz od (.dK ka)) b = some (.dK kb) by rw [upd_ne (Ne.symm ne)]; exact hb) trivial
  have ea : upd (upd H a (.frz od (.dK ka))) b (.frz ob (.dK kb)) a = some (.frz od (.dK ka)) := by rw [upd_ne ne, upd_same]
  have eb : upd (upd H a (.frz od (.dK ka))) b (.frz ob (.dK kb)) b = some (.frz ob (.dK kb)) := upd_same
  generalize hH : upd (upd H a (.frz od (.dK ka))) b (.frz ob (.dK kb)) = H0 at I2 ea eb
  obtain ⟨ga, xa⟩ := (show ObjOk X.prog X.w H0 s.heap a (.frz od (.dK ka)) from I2.hok a _ ea)
  obtain ⟨gb, xb⟩ := (show ObjOk X.prog X.w H0 s.heap b (.frz ob (.dK kb)) from I2.hok b _ eb)
  obtain ⟨_, na, va, ra, dA⟩ := (show ObjOk X.prog X.w H0 s.heap a (.dK ka) from xa)
  obtain ⟨_, nb, vb, rb, dB⟩ := (show ObjOk X.prog X.w H0 s.heap b (.dK kb) from xb)
  refine ⟨dA.typeIs, dB.typeIs, ?_⟩
  obtain ⟨o1, es, p1, g1, _, d1, u1, w1, _⟩ := dA
  obtain ⟨o2, et, p2, g2, _, d2, u2, w2, _⟩ := dB
  rw [ga] at g1
  rw [gb] at g2
  (cases g1; cases g2)
  have up : Ext (hide2 H a b) H0 := ext_hide fun c h1 h2 => by rw [← hH, upd_ne h2, upd_ne h1]
  refine DeG.pairs na nb d1 d2 u1 u2 w1 w2 (by rw [← ra.length, ← rb.length]; exact hl) (fun _ s' => LoopI X pins σ H0 s') (fun i s' ⟨H', I', e'⟩ => ?_) (fun i k v s' hi ⟨H', I', e'⟩ => ?_) ⟨H0, I2, Ext.rfl'⟩ (fun s' ⟨H', I', e'⟩ => ⟨rfl, ?_⟩)
  · exact ⟨(show ObjOk X.prog X.w H' s'.heap a (.frz od (.dK ka)) from I'.hok a _ (e' _ _ ea)).1, (show ObjOk X.prog X.w H' s'.heap b (.frz ob (.dK kb)) from I'.hok b _ (e' _ _ eb)).1⟩
  · have li : i < ka.length := by rw [ra.length]; exact (List.getElem?_eq_some_iff.mp hi).1
    obtain ⟨⟨k0, x⟩, hx⟩ : ∃ p, ka[i]? = some p := ⟨_, List.getElem?_eq_getElem li⟩
    obtain ⟨k1, r1⟩ := kv_get ra hx hi
    obtain rfl : k0 = k := k1
    obtain ⟨u, hu, hd⟩ := hv i k0 x hx
    have rr : RelO (some u) (valueAt vb k0) := by rw [← hu]; exact rb.val k0
    obtain ⟨y, hy, ry⟩ := rr.some_of
    refine ⟨y, hy, wpAny_mono (h A.in1 pins s' σ H' x u v y sb.in1 I' r1 ry (hD _ _ _ _ e' (hD _ _ _ _ up hd))) (fun r s2 z => ?_) fun _ _ z => z⟩
    obtain ⟨rfl, H2, I3, e2⟩ := z
    exact ⟨rfl, H2, I3, e'.trans e2⟩
  · have f1 : H' b = some (.frz ob (.dK kb)) := e' _ _ eb
    have f2 : upd H' b (.dK kb) a = some (.frz od (.dK ka)) := by rw [upd_ne ne]; exact e' _ _ ea
    refine ⟨_, (I'.unlock f1 (I.nofrz hb trivial)).unlock f2 (I.nofrz ha trivial), fun c o e => ?_⟩
    by_cases c1 : c = a
    · rw [c1, upd_same, ← ha, ← c1]; exact e
    · rw [upd_ne c1]
      by_cases c2 : c = b
      · rw [c2, upd_same, ← hb, ← c2]; exact e
      · rw [upd_ne c2]
        exact e' _ _ (by rw [← hH, upd_ne c2, upd_ne c1]; exact e)
theorem rcG_dict (hD : Mon D) (h : EqG X n D) : RcG X (n + 1) (DDict D) := by
  intro A pins s σ H x y u v sb I rx ry d
  obtain ⟨a, b, ka, kb, rfl, rfl, ne, ha, hb, hl, hv⟩ := d
  (cases rx; cases ry)
  obtain ⟨ta, tb, _⟩ := dict_run hD h sb I ne ha hb hl hv ""
  refine DeG.eqd ta tb sb.room.units0 fun nm => wpAny_mono (dict_run hD h sb I ne ha hb hl hv nm).2.2 (fun r s' z => ?_) fun _ _ z => z
  obtain ⟨rfl, q⟩ := z
  exact ⟨rfl, q⟩
theorem rnG_dict (hD : Mon D) (h : EqG X n D) : RnG X (n + 1) (DDict D) := by
  intro A pins s σ H x y u v sb I rx ry d
  obtain ⟨a, b, ka, kb, rfl, rfl, ne, ha, hb, hl, hv⟩ := d
  (cases rx; cases ry)
  obtain ⟨ta, tb, _⟩ := dict_run hD h sb I ne ha hb hl hv ""
  refine DeG.ned ta tb sb.room.units0 fun nm => wpAny_mono (dict_run hD h sb I ne ha hb hl hv nm).2.2 (fun r s' z => ?_) fun _ _ z => z
  obtain ⟨rfl, q⟩ := z
  exact ⟨rfl, q⟩
theorem mon_dict (hD : Mon D) : Mon (DDict D) := fun x y H H' e d => by
  obtain ⟨a, b, ka, kb, hx, hy, ne, ha, hb, hl, hv⟩ := d
  refine ⟨a, b, ka, kb, hx, hy, ne, e _ _ ha, e _ _ hb, hl, fun i k v hi => ?_⟩
  obtain ⟨u, hu, hd⟩ := hv i k v hi
  refine ⟨u, hu, hD _ _ _ _ (fun c o q => ?_) hd⟩
  unfold hide2 at q ⊢
  split at q
  · cases q
  · rename_i z
    rw [if_neg z]
    exact e _ _ q
theorem eqG_dict (hD : Mon D) (h : EqG X n D) : EqG X (n + 1) (DDict D) := (rcG_dict hD h).eqG fun _ _ _ d => let ⟨a, b, _, _, hx, hy, _⟩ := d; ⟨a, b, hx, hy⟩
end
/-! ### what stays: all but lists and dicts -/
def Soft : HO → Bool
  | .lst _ => true
  | .dK _ => true
  | .dT _ => true
  | _ => false
def Keep (H H' : Hp) : Prop := ∀ b o, H b = some o → Soft o = false → H' b = some o
theorem Keep.refl (H : Hp) : Keep H H := fun _ _ h _ => h
theorem Keep.trans {H H1 H2 : Hp} (a : Keep H H1) (b : Keep H1 H2) : Keep H H2 := fun c o h s => b c o (a c o h s) s
theorem Same.keep {H H' : Hp} (e : Same H H') : Keep H H' := fun b o h _ => e b o h
theorem keep_upd {H : Hp} {a : Addr} {o o' : HO} (h : H a = some o) (s : Soft o = true) : Keep H (upd H a o') := fun b u e su => by
  by_cases z : b = a
  · rw [z, h] at e
    cases e
    rw [s] at su
    cases su
  · rw [upd_ne z]
    exact e
theorem keep_hide {H : Hp} {a b : Addr} {o o' : HO} (h : H a = some o) (s : Soft o = true) (h' : H b = some o') (s' : Soft o' = true) : Keep H (hide2 H a b) := fun c u e su => by
  unfold hide2
  by_cases z : c = a ∨ c = b
  · rcases z with z | z
    · rw [z, h] at e
      cases e
      rw [s] at su
      cases su
    · rw [z, h'] at e
      cases e
      rw [s'] at su
      cases su
  · rw [if_neg z]
    exact e
theorem SqT.keep {K : PySem.W.Frag} {H H' : Hp} {a : Addr} {xs : List V} (h : SqT K H a xs) (e : Keep H H') : SqT K H' a xs :=
  h.elim (fun h => .inl (h.elim (fun h => .inl (e _ _ h rfl)) fun ⟨o, h⟩ => .inr ⟨o, e _ _ h rfl⟩)) fun h => .inr h
theorem SqT.same {K : PySem.W.Frag} {H H' : Hp} {a : Addr} {xs : List V} (h : SqT K H a xs) (e : Same H H') : SqT K H' a xs := SqT.keep h (Same.keep e)
theorem SqL.same {K : PySem.W.Frag} {H H' : Hp} {a : Addr} {xs : List V} (h : SqL K H a xs) (e : Same H H') : SqL K H' a xs :=
  h.elim (fun h => .inl (h.elim (fun h => .inl (e _ _ h)) fun ⟨o, h⟩ => .inr ⟨o, e _ _ h⟩)) fun h => .inr h
theorem same_upd {H H' : Hp} {a : Addr} {o : HO} (e : Same H H') (h : H a = none) : Same H (upd H' a o) := fun b u q => by
  rw [upd_ne (ne_of_none q h)]
  exact e b u q
theorem Paired.at_ {α β : Type} {F : α → β → Prop} : ∀ {xs : List α} {ys : List β} {i : Nat} {x : α} {y : β}, Paired F xs ys → xs[i]? = some x → ys[i]? = some y → F x y
  | _, _, _, _, _, .nil, h, _ => by simp at h
  | _, _, 0, _, _, .cons r _, h, h' => by simp at h h'; rw [← h, ← h']; exact r
  | _, _, i + 1, _, _, .cons _ t, h, h' => Paired.at_ (i := i) t (by simpa using h) (by simpa using h')
theorem Paired.some {α β : Type} {F : α → β → Prop} : ∀ {xs : List α} {ys : List β} {i : Nat} {x : α}, Paired F xs ys → xs[i]? = some x → ∃ y, ys[i]? = some y ∧ F x y
  | _, _, _, _, .nil, h => by simp at h
  | _, _, 0, _, .cons r _, h => by simp at h; exact ⟨_, rfl, h ▸ r⟩
  | _, _, i + 1, _, .cons _ t, h => by
    obtain ⟨y, h1, h2⟩ := Paired.some (i := i) t (by simpa using h)
    exact ⟨y, by simpa using h1, h2⟩
theorem Paired.take {α β : Type} {F : α → β → Prop} : ∀ {xs : List α} {ys : List β} (n : Nat), Paired F xs ys → Paired F (xs.take n) (ys.take n)
  | _, _, 0, _ => .nil
  | _, _, _ + 1, .nil => .nil
  | _, _, n + 1, .cons r t => .cons r (Paired.take n t)
theorem Paired.drop {α β : Type} {F : α → β → Prop} : ∀ {xs : List α} {ys : List β} (n : Nat), Paired F xs ys → Paired F (xs.drop n) (ys.drop n)
  | _, _, 0, r => r
  | _, _, _ + 1, .nil => .nil
  | _, _, n + 1, .cons _ t => Paired.drop n t
theorem Paired.app {α β : Type} {F : α → β → Prop} : ∀ {xs xs' : List α} {ys ys' : List β}, Paired F xs ys → Paired F xs' ys' → Paired F (xs ++ xs') (ys ++ ys')
  | _, _, _, _, .nil, s => s
  | _, _, _, _, .cons r t, s => .cons r (Paired.app t s)
theorem Paired.set {α β : Type} {F : α → β → Prop} {x : α} {y : β} (r : F x y) : ∀ {xs : List α} {ys : List β} (i : Nat), Paired F xs ys → Paired F (xs.set i x) (ys.set i y)
  | _, _, _, .nil => .nil
  | _, _, 0, .cons _ t => .cons r t
  | _, _, i + 1, .cons q t => .cons q (Paired.set r i t)
theorem Paired.imp {α β : Type} {F G : α → β → Prop} (h : ∀ a b, F a b → G a b) : ∀ {xs : List α} {ys : List β}, Paired F xs ys → Paired G xs ys
  | _, _, .nil => .nil
  | _, _, .cons r t => .cons (h _ _ r) (Paired.imp h t)
/-! ### a for over a list, any target; comprehensions over a list -/
section
variable {σ : St} {H H1 : Hp} {g : TG} {tb : TS} {nx : St → Hp → Prop} {rt : VK} {bk ct : St → Hp → Prop} {K : PySem.W.Frag} {a : Addr} {xs : List V} {wi : TI} {tt : TT} {te : TE} {vs : List Nat} {Q : VK}
theorem for_lstG (Pv : Nat → St → Hp → Prop) (h0 : Pv 0 σ H) (hl : ∀ i σ H, i ≤ xs.length → Pv i σ H → SqL K H a xs) (hs : ∀ i x σ H, xs[i]? = some x → Pv i σ H → g x σ H fun σ2 H2 => tb ⟨Pv (i + 1), rt, nx, Pv (i + 1)⟩ σ2 H2) (hd : ∀ σ H, Pv xs.length σ H → nx σ H) :
    forR (Itl K a) g tb ⟨nx, rt, bk, ct⟩ σ H := by
  refine ⟨fun i m σ H => m = xs.length - i ∧ i ≤ xs.length ∧ Pv i σ H, ⟨xs.length, by simp, Nat.zero_le _, h0⟩, ?_⟩
  rintro i m σ H ⟨rfl, hi, p⟩
  have q := hl i σ H hi p
  by_cases lt : i < xs.length
  · refine .inr ⟨⟨xs, xs[i], q, by simp [lt]⟩, Pv (i + 1), fun σ' H' p' => ⟨xs.length - (i + 1), by omega, rfl, lt, p'⟩, fun x H' y => ?_⟩
    obtain ⟨rfl, y⟩ := y
    exact hs i x σ H' (y xs q) p
  · obtain rfl : i = xs.length := by omega
    exact .inl ⟨⟨xs, q, Nat.le_refl _⟩, hd σ H p⟩
def lcR (J : It) (g : TG) (tt : TT) (te : TE) (vs : List Nat) (σ : St) (H1 : Hp) (Q : VK) : Prop := ∀ D, H1 D = none → ∃ W : Nat → Nat → Hp → Prop, (∃ m, W 0 m (upd H1 D (.lst []))) ∧ ∀ i m H, W i m H → (J.stop i H ∧ Q (.ref D) H) ∨
  (J.go i H ∧ ∃ N : Hp → Prop, (∀ H', N H' → ∃ m', m' < m ∧ W (i + 1) m' H') ∧ ∀ x H', J.yld i H x H' → g x (wipe σ vs) H' fun σ2 H2 => wipe σ2 vs = wipe σ vs ∧ tt σ2 H2 fun b H3 =>
    if b = true then te σ2 H3 fun y H4 => ∃ acc, H4 D = some (.lst acc) ∧ acc.length < sizeLine ∧ N (upd H4 D (.lst (acc ++ [y]))) else N H3)
theorem r_lc (h : wi σ H fun J H1 => lcR J g tt te vs σ H1 Q) : tLc wi g tt te vs σ H Q := h
/-- behind a turn of a comprehension -/
def LcN (H1 : Hp) (D : Addr) (Pv : Nat → List V → Hp → Prop) (i : Nat) (H : Hp) : Prop := Same H1 H ∧ ∃ acc, acc.length ≤ i ∧ H D = some (.lst acc) ∧ Pv i acc H
theorem lc_add {Pv : Nat → List V → Hp → Prop} {D : Addr} {i : Nat} {acc : List V} {y : V} {H4 : Hp} (hD : H1 D = none) (hS : Same H1 H) (s : Same H H4) (ha : H D = some (.lst acc)) (hl : acc.length ≤ i) (hi : i < 100000) (p : Pv (i + 1) (acc ++ [y]) (upd H4 D (.lst (acc ++ [y])))) :
    ∃ acc, H4 D = some (.lst acc) ∧ acc.length < sizeLine ∧ LcN H1 D Pv (i + 1) (upd H4 D (.lst (acc ++ [y]))) :=
  ⟨acc, s _ _ ha, by rw [sizeLine_eq]; omega, same_upd (hS.trans s) hD, _, by rw [List.length_append, List.length_singleton]; omega, upd_same, p⟩
theorem lc_skip {Pv : Nat → List V → Hp → Prop} {D : Addr} {i : Nat} {acc : List V} {H4 : Hp} (hS : Same H1 H) (s : Same H H4) (ha : H D = some (.lst acc)) (hl : acc.length ≤ i) (p : Pv (i + 1) acc H4) : LcN H1 D Pv (i + 1) H4 :=
  ⟨hS.trans s, acc, Nat.le_succ_of_le hl, s _ _ ha, p⟩
/-- [te for g in xs if tt]: what holds of the part taken -/
theorem lc_lst (hl : SqL K H1 a xs) (hz : xs.length ≤ 100000) (Pv : Nat → List V → Hp → Prop) (h0 : ∀ D, H1 D = none → Pv 0 [] (upd H1 D (.lst [])))
    (hs : ∀ D i x acc H, H1 D = none → xs[i]? = some x → i < 100000 → Same H1 H → H D = some (.lst acc) → acc.length ≤ i → Pv i acc H → g x (wipe σ vs) H fun σ2 H2 => wipe σ2 vs = wipe σ vs ∧ tt σ2 H2 fun b H3 =>
      if b = true then te σ2 H3 fun y H4 => ∃ acc, H4 D = some (.lst acc) ∧ acc.length < sizeLine ∧ LcN H1 D Pv (i + 1) (upd H4 D (.lst (acc ++ [y]))) else LcN H1 D Pv (i + 1) H3)
    (hd : ∀ D acc H, H1 D = none → Same H1 H → H D = some (.lst acc) → Pv xs.length acc H → Q (.ref D) H) : lcR (Itl K a) g tt te vs σ H1 Q := by
  intro D hD
  refine ⟨fun i m H => m = xs.length - i ∧ i ≤ xs.length ∧ LcN H1 D Pv i H, ⟨xs.length, by simp, Nat.zero_le _, same_new hD, [], Nat.le_refl _, upd_same, h0 D hD⟩, ?_⟩
  rintro i m H ⟨rfl, hi, hS, acc, ha, hD2, p⟩
  have q := SqL.same hl hS
  by_cases lt : i < xs.length
  · refine .inr ⟨⟨xs, xs[i], q, by simp [lt]⟩, LcN H1 D Pv (i + 1), fun H' p' => ⟨xs.length - (i + 1), by omega, rfl, lt, p'⟩, fun x H' y => ?_⟩
    obtain ⟨rfl, y⟩ := y
    exact hs D i x acc H' hD (y xs q) (by omega) hS hD2 ha p
  · obtain rfl : i = xs.length := by omega
    exact .inl ⟨⟨xs, q, Nat.le_refl _⟩, hd D acc H hD hS hD2 p⟩
end
/-! ### more steps of a reading -/
section
variable {σ : St} {H : Hp} {K : PySem.W.Frag} {a : Addr} {xs : List V} {g : TG} {gs : TGs} {N : St → Hp → Prop} {Q : VK} {v : V} {n i : Nat} {te : TE} {ts : List TE} {acc : Str} {J : Str → Hp → Prop}
theorem r_gname (h : N (σ.set i (some v)) H) : gName i v σ H N := h
theorem r_gnil (h : N σ H) : gNil [] σ H N := ⟨rfl, h⟩
theorem r_gcons {vs : List V} (h : g v σ H fun σ' H' => gs vs σ' H' N) : gCons g gs (v :: vs) σ H N := ⟨v, vs, rfl, h⟩
theorem r_gtup (hs : SqT K H a xs) (hn : xs.length = n) (h : gs xs σ H N) : gTup K n gs (.ref a) σ H N := ⟨a, xs, rfl, hs, hn, h⟩
theorem r_jnil (h : J acc H) : tJs [] acc σ H J := h
theorem r_jcons (h : te σ H fun x H1 => ∃ y : Str, x = .str y ∧ (acc ++ y).length ≤ sizeLine ∧ tJs ts (acc ++ y) σ H1 J) : tJs (te :: ts) acc σ H J := h
theorem r_jstr {y : Str} (hz : (acc ++ y).length ≤ sizeLine) (h : tJs ts (acc ++ y) σ H J) : tJs (tC (.str y) :: ts) acc σ H J := ⟨y, rfl, hz, h⟩
theorem r_jvar {y : Str} (e : σ[i]? = some (some (.str y))) (hy : y.length ≤ sizeLine) (hz : (acc ++ y).length ≤ sizeLine) (h : tJs ts (acc ++ y) σ H J) : tJs (tFmt (tVar i) :: ts) acc σ H J := ⟨_, e, .inl ⟨y, rfl, hy, y, rfl, hz, h⟩⟩
theorem r_fmt (h : te σ H fun x H1 => (∃ y : Str, x = .str y ∧ y.length ≤ sizeLine ∧ Q (.str y) H1) ∨ ∃ i : Int, x = .int i ∧ i.natAbs.log2 < 1920 ∧ Q (.str (toString i)) H1) : tFmt te σ H Q := h
theorem r_fmtS {y : Str} {R : V → Prop} (hy : y.length ≤ sizeLine) (h : R (.str y)) : (∃ z : Str, V.str y = .str z ∧ z.length ≤ sizeLine ∧ R (.str z)) ∨ ∃ i : Int, V.str y = .int i ∧ i.natAbs.log2 < 1920 ∧ R (.str (toString i)) := .inl ⟨y, rfl, hy, h⟩
theorem r_dnew (h : ∀ p, H p = none → Q (.ref p) (upd H p (.dK []))) : tDNewK σ H Q := h
theorem r_dput {td ty tv : TE} {nx : St → Hp → Prop} {rt : VK} {bk ct : St → Hp → Prop} (h : tv σ H fun v H1 => td σ H1 fun x H2 => ty σ H2 fun y H3 => ∃ a H4, x = .ref a ∧ DPut H3 a y v H4 ∧ nx σ H4) : sDPut td ty tv ⟨nx, rt, bk, ct⟩ σ H := h
theorem sapp_len (x y : Str) : (x ++ y).length = x.length + y.length := by simp [Str.length, Str.cps_append]
theorem sapp_nil (x : Str) : Str.empty ++ x = x := by
  show Str.mk (Str.empty.cps ++ x.cps) = x
  simp [Str.empty]
end
/-! ### one step, at the goal's head -/
local macro_rules | `(tactic| walk_at "go1") => `(tactic| first
  | (with_reducible apply r_seq) | (with_reducible apply r_set) | (with_reducible apply r_if) | (with_reducible apply r_ret) | (with_reducible apply r_next)
  | (with_reducible apply r_op) | (with_reducible apply r_c) | ((with_reducible apply r_var); exact rfl) | (with_reducible apply r_consA) | (with_reducible apply r_nilA)
  | (with_reducible apply r_call) | (with_reducible apply r_callS) | (with_reducible apply r_CB) | (with_reducible apply r_I0) | (with_reducible apply r_test) | (with_reducible apply r_bl)
  | (with_reducible apply r_B) | (with_reducible apply r_un) | (with_reducible apply r_U) | ((with_reducible apply r_eq); exact rfl) | ((with_reducible apply r_ne); exact rfl)
  | (with_reducible apply r_and) | (with_reducible apply r_or) | (with_reducible apply r_not) | (with_reducible apply r_andV) | (with_reducible apply r_orV) | (with_reducible apply r_notV) | (with_reducible apply r_ifE)
  | (with_reducible apply r_asg) | (with_reducible apply r_sub) | (with_reducible apply r_par) | (with_reducible apply r_drop) | (with_reducible apply r_brk) | (with_reducible apply r_cont)
  | (with_reducible apply r_fld) | (with_reducible apply r_tup) | (with_reducible apply r_lst))
local macro_rules | `(tactic| walk_at "go") => `(tactic| repeat walk_at "go1")
local macro_rules | `(tactic| walk_at "go1") => `(tactic| first | (with_reducible apply r_make) | (with_reducible apply r_makeS))
local macro_rules | `(tactic| walk_at "go1") => `(tactic| first | (with_reducible apply r_for) | (with_reducible apply r_iRng1) | (with_reducible apply r_iList))
local macro_rules | `(tactic| walk_at "go1") => `(tactic| first | ((with_reducible apply r_ixL); exact SqL.of upd_same; exact rfl) | ((with_reducible apply r_ixT); exact SqT.of upd_same; exact rfl))
local macro_rules | `(tactic| walk_at "go2") => `(tactic| first | (refine Or.inl ⟨_, rfl, ?_⟩) | (refine ⟨_, rfl, ?_⟩) | (refine ⟨_, _, rfl, ?_⟩) | (refine ⟨_, _, rfl, rfl, ?_⟩))
local macro_rules | `(tactic| walk_at "go") => `(tactic| repeat first | walk_at "go1" | walk_at "go2")
local macro_rules | `(tactic| walk_at "go1") => `(tactic| ((with_reducible apply r_setL); exact upd_same; exact rfl))
local macro_rules | `(tactic| walk_at "go2") => `(tactic| (refine And.intro (by first | omega | (dsimp only; omega) | decide) ?_))
local macro_rules | `(tactic| walk_at "go1") => `(tactic| (with_reducible apply r_sfld))
local macro_rules | `(tactic| walk_at "go2") => `(tactic| (refine And.intro (show CPow _ _ from ⟨by decide, by decide, by decide⟩) ?_))
local macro_rules | `(tactic| walk_at "go2") => `(tactic| (refine And.intro (by assumption) ?_))
local macro_rules | `(tactic| walk_at "go1") => `(tactic| first | (with_reducible apply ite_nt) | (with_reducible apply ite_nf) | (with_reducible apply iteT) | (with_reducible apply iteF))
local macro_rules | `(tactic| walk_at "go1") => `(tactic| first | (with_reducible apply r_gname) | (with_reducible apply r_gcons) | (with_reducible apply r_gnil) | (with_reducible apply r_dput) | (with_reducible apply r_dnew) | (with_reducible apply r_lc) | (with_reducible apply r_fmt) | (with_reducible apply r_jnil) | (with_reducible apply r_jcons))
local macro_rules | `(tactic| walk_at "js") => `(tactic| repeat first | walk_at "go1" | (refine And.intro (by ((try dsimp only); (try simp only [sapp_nil, sapp_len]); omega)) ?_) | (refine ⟨_, rfl, (by ((try dsimp only); (try simp only [sapp_nil, sapp_len]); omega)), ?_⟩) | walk_at "go2")
/-! ### the text by places -/
def top (i : Nat) : Stmt := PySem.Challenge.pw_linkwork_k16_equations_of_sets.main.body.getD i (.Pass ⟨0, 0, 0, 0⟩)
abbrev s_Ratio___init__ : Stmt := inClass (top 5) 0
abbrev s_Ratio___eq__ : Stmt := inClass (top 5) 1
abbrev s_Ratio___add__ : Stmt := inClass (top 5) 2
abbrev s_Ratio___sub__ : Stmt := inClass (top 5) 3
abbrev s_Ratio___mul__ : Stmt := inClass (top 5) 4
abbrev s_Ratio___neg__ : Stmt := inClass (top 5) 5
abbrev s_sum_of : Stmt := top 7
abbrev s_set_equations : Stmt := top 9
abbrev s__name : Stmt := top 10
abbrev s__variable : Stmt := top 11
abbrev s__law_stream : Stmt := top 13
abbrev s__law_draw : Stmt := top 14
abbrev s__law_ends : Stmt := top 15
abbrev s__law_named : Stmt := top 16
abbrev s__law_due : Stmt := top 17
abbrev s_law : Stmt := top 18
/-! ### the head's facts -/
def d_Ratio___init__ : He.DefD := ⟨(("Ratio" : Str), some ("__init__" : Str)), ("__init__" : Str), ("Ratio.__init__" : Str), defArgs s_Ratio___init__, defBody s_Ratio___init__, defScope s_Ratio___init__, [(.int (1))], []⟩
def d_Ratio___eq__ : He.DefD := ⟨(("Ratio" : Str), some ("__eq__" : Str)), ("__eq__" : Str), ("Ratio.__eq__" : Str), defArgs s_Ratio___eq__, defBody s_Ratio___eq__, defScope s_Ratio___eq__, [], []⟩
def d_Ratio___add__ : He.DefD := ⟨(("Ratio" : Str), some ("__add__" : Str)), ("__add__" : Str), ("Ratio.__add__" : Str), defArgs s_Ratio___add__, defBody s_Ratio___add__, defScope s_Ratio___add__, [], []⟩
def d_Ratio___sub__ : He.DefD := ⟨(("Ratio" : Str), some ("__sub__" : Str)), ("__sub__" : Str), ("Ratio.__sub__" : Str), defArgs s_Ratio___sub__, defBody s_Ratio___sub__, defScope s_Ratio___sub__, [], []⟩
def d_Ratio___mul__ : He.DefD := ⟨(("Ratio" : Str), some ("__mul__" : Str)), ("__mul__" : Str), ("Ratio.__mul__" : Str), defArgs s_Ratio___mul__, defBody s_Ratio___mul__, defScope s_Ratio___mul__, [], []⟩
def d_Ratio___neg__ : He.DefD := ⟨(("Ratio" : Str), some ("__neg__" : Str)), ("__neg__" : Str), ("Ratio.__neg__" : Str), defArgs s_Ratio___neg__, defBody s_Ratio___neg__, defScope s_Ratio___neg__, [], []⟩
def d_sum_of : He.DefD := ⟨(("sum_of" : Str), none), ("sum_of" : Str), ("sum_of" : Str), defArgs s_sum_of, defBody s_sum_of, defScope s_sum_of, [], []⟩
def d_set_equations : He.DefD := ⟨(("set_equations" : Str), none), ("set_equations" : Str), ("set_equations" : Str), defArgs s_set_equations, defBody s_set_equations, defScope s_set_equations, [], []⟩
def d__name : He.DefD := ⟨(("_name" : Str), none), ("_name" : Str), ("_name" : Str), defArgs s__name, defBody s__name, defScope s__name, [], []⟩
def d__variable : He.DefD := ⟨(("_variable" : Str), none), ("_variable" : Str), ("_variable" : Str), defArgs s__variable, defBody s__variable, defScope s__variable, [], []⟩
def d__law_stream : He.DefD := ⟨(("_law_stream" : Str), none), ("_law_stream" : Str), ("_law_stream" : Str), defArgs s__law_stream, defBody s__law_stream, defScope s__law_stream, [], []⟩
def d__law_draw : He.DefD := ⟨(("_law_draw" : Str), none), ("_law_draw" : Str), ("_law_draw" : Str), defArgs s__law_draw, defBody s__law_draw, defScope s__law_draw, [], []⟩
def d__law_ends : He.DefD := ⟨(("_law_ends" : Str), none), ("_law_ends" : Str), ("_law_ends" : Str), defArgs s__law_ends, defBody s__law_ends, defScope s__law_ends, [], []⟩
def d__law_named : He.DefD := ⟨(("_law_named" : Str), none), ("_law_named" : Str), ("_law_named" : Str), defArgs s__law_named, defBody s__law_named, defScope s__law_named, [], []⟩
def d__law_due : He.DefD := ⟨(("_law_due" : Str), none), ("_law_due" : Str), ("_law_due" : Str), defArgs s__law_due, defBody s__law_due, defScope s__law_due, [], []⟩
def d_law : He.DefD := ⟨(("law" : Str), none), ("law" : Str), ("law" : Str), defArgs s_law, defBody s_law, defScope s_law, [], []⟩
def fnL : List He.DefD := [d_Ratio___init__, d_Ratio___eq__, d_Ratio___add__, d_Ratio___sub__, d_Ratio___mul__, d_Ratio___neg__, d_sum_of, d_set_equations, d__name, d__variable, d__law_stream, d__law_draw, d__law_ends, d__law_named, d__law_due, d_law]
def faL : List He.Fa := [.glo ("sum_of" : Str), .glo ("set_equations" : Str), .glo ("_name" : Str), .glo ("_variable" : Str), .glo ("_law_stream" : Str), .glo ("_law_draw" : Str), .glo ("_law_ends" : Str), .glo ("_law_named" : Str), .glo ("_law_due" : Str), .glo ("law" : Str), .glo ("LinkworkError" : Str), .glo ("ByZero" : Str), .glo ("Ratio" : Str), .free ("abs" : Str), .free ("dict" : Str), .free ("int" : Str), .free ("isinstance" : Str), .free ("len" : Str), .free ("list" : Str), .free ("range" : Str), .free ("sorted" : Str), .exc ("LinkworkError" : Str), .exc ("ByZero" : Str), .cls ("Ratio" : Str), .noat ("Ratio" : Str) ("top" : Str), .noat ("Ratio" : Str) ("bottom" : Str), .mkr ("Ratio" : Str), .meth ("Ratio" : Str) ("__eq__" : Str), .meth ("Ratio" : Str) ("__add__" : Str), .meth ("Ratio" : Str) ("__sub__" : Str), .meth ("Ratio" : Str) ("__mul__" : Str), .meth ("Ratio" : Str) ("__neg__" : Str), .exm ("ByZero" : Str) ("ByZero" : Str) true]
def ex_imp_gcd (K : PySem.W.Frag) : Bool := He.eqO (PySem.W.nsIn K mainGlobals ("gcd" : Str)) (some (some (.builtin "math.gcd")))
def ex_excC_LinkworkError (K : PySem.W.Frag) : Bool := excCB K (He.ga K ("LinkworkError" : Str))
def ex_excC_ByZero (K : PySem.W.Frag) : Bool := excCB K (He.ga K ("ByZero" : Str))
def ex_isi_Ratio (K : PySem.W.Frag) : Bool := isiCB K (He.ga K ("Ratio" : Str))
def ex_first_Ratio (K : PySem.W.Frag) : Bool := PySem.W.selfFirst K (He.ga K ("Ratio" : Str))
def ex_kit_t_dict_t_dict (K : PySem.W.Frag) : Bool := decide (PySem.W.kitOne K (.type "dict") (.type "dict") = some true)
def ex_kit_ByZero_LinkworkError (K : PySem.W.Frag) : Bool := decide (PySem.W.kitOne K (.ref (He.ga K ("ByZero" : Str))) (.ref (He.ga K ("LinkworkError" : Str))) = some true)
def ex_kit_Ratio_Ratio (K : PySem.W.Frag) : Bool := decide (PySem.W.kitOne K (.ref (He.ga K ("Ratio" : Str))) (.ref (He.ga K ("Ratio" : Str))) = some true)
def exL : List (PySem.W.Frag → Bool) := [ex_imp_gcd, ex_excC_LinkworkError, ex_excC_ByZero, ex_isi_Ratio, ex_first_Ratio, ex_kit_t_dict_t_dict, ex_kit_ByZero_LinkworkError, ex_kit_Ratio_Ratio]
def exB (K : PySem.W.Frag) : Bool := exL.all fun f => f K
abbrev R : PySem.W.OpenRow := PySem.W.OpenLaw.row PySem.Challenge.rw_linkwork_k16_equations_of_sets
abbrev hk : PySem.W.Hook := hookS 5 faL fnL exB
def ob (s : PySem.W.SharedT) : AlS := obsS 5 faL fnL exB (HeadRun.getT s)
theorem ob_eq (s : PySem.W.SharedT) : ob s = hk.obs s.abs := obsS_eq (HeadRun.getT_eq s)
def looseL : List PySem.Str := [("__name__" : Str), ("LinkworkError" : Str), ("ByZero" : Str), ("Ratio" : Str), ("sum_of" : Str), ("set_equations" : Str), ("_name" : Str), ("_variable" : Str), ("_law_stream" : Str), ("_law_draw" : Str), ("_law_ends" : Str), ("_law_named" : Str), ("_law_due" : Str)]
abbrev qv : Program := PySem.W.view R.prog [0, 18]
theorem run (w : World) : HeadRun.RunEqI R qv hk ob 4000 looseL w := by
  unfold HeadRun.RunEqI
  kernel_rfl
/-! ### the facts by names -/
def Top (w : World) (K : PySem.W.Frag) (mg : Str → Option Value) : Prop := ∃ h : Heap, K.In h ∧ h.Ns mainGlobals mg ∧ SaysS faL fnL exB K
noncomputable def fdOf (K : PySem.W.Frag) (d : He.DefD) : FuncData := @Classical.epsilon FuncData ⟨PySem.W.fnOf d.name d.qual d.params d.body d.scope .none .none .none .none none .none .none⟩ fun fd => FunD K d.name d.qual d.params d.body d.scope (d.dvs K) (d.kws K) (He.fAd K d.at_) fd
section
variable {w : World} {K : PySem.W.Frag} {mg : Str → Option Value}
theorem Top.fun_ (T : Top w K mg) (i : Nat) {d : He.DefD} (h : fnL[i]? = some d) : FunD K d.name d.qual d.params d.body d.scope (d.dvs K) (d.kws K) (He.fAd K d.at_) (fdOf K d) := by
  obtain ⟨_, _, _, c⟩ := T
  exact Classical.epsilon_spec (c.d.def_ i h)
theorem Top.fact (T : Top w K mg) (i : Nat) {f : He.Fa} (h : faL[i]? = some f) : f.ok K = true := by
  obtain ⟨_, _, _, c⟩ := T
  exact c.d.fact i h
theorem Top.ex (T : Top w K mg) (i : Nat) {f : PySem.W.Frag → Bool} (h : exL[i]? = some f) : f K = true := by
  obtain ⟨_, _, _, c⟩ := T
  exact List.all_eq_true.mp (show (exL.all fun f => f K) = true from c.more) f (List.mem_of_getElem? h)
theorem Top.g_sum_of (T : Top w K mg) : mg ("sum_of" : Str) = some (.ref (He.ga K ("sum_of" : Str))) := by obtain ⟨h, X, G, c⟩ := T; exact He.glo_ok X G (c.d.fact 0 rfl)
theorem Top.g_set_equations (T : Top w K mg) : mg ("set_equations" : Str) = some (.ref (He.ga K ("set_equations" : Str))) := by obtain ⟨h, X, G, c⟩ := T; exact He.glo_ok X G (c.d.fact 1 rfl)
theorem Top.g__name (T : Top w K mg) : mg ("_name" : Str) = some (.ref (He.ga K ("_name" : Str))) := by obtain ⟨h, X, G, c⟩ := T; exact He.glo_ok X G (c.d.fact 2 rfl)
theorem Top.g__variable (T : Top w K mg) : mg ("_variable" : Str) = some (.ref (He.ga K ("_variable" : Str))) := by obtain ⟨h, X, G, c⟩ := T; exact He.glo_ok X G (c.d.fact 3 rfl)
theorem Top.g__law_stream (T : Top w K mg) : mg ("_law_stream" : Str) = some (.ref (He.ga K ("_law_stream" : Str))) := by obtain ⟨h, X, G, c⟩ := T; exact He.glo_ok X G (c.d.fact 4 rfl)
theorem Top.g__law_draw (T : Top w K mg) : mg ("_law_draw" : Str) = some (.ref (He.ga K ("_law_draw" : Str))) := by obtain ⟨h, X, G, c⟩ := T; exact He.glo_ok X G (c.d.fact 5 rfl)
theorem Top.g__law_ends (T : Top w K mg) : mg ("_law_ends" : Str) = some (.ref (He.ga K ("_law_ends" : Str))) := by obtain ⟨h, X, G, c⟩ := T; exact He.glo_ok X G (c.d.fact 6 rfl)
theorem Top.g__law_named (T : Top w K mg) : mg ("_law_named" : Str) = some (.ref (He.ga K ("_law_named" : Str))) := by obtain ⟨h, X, G, c⟩ := T; exact He.glo_ok X G (c.d.fact 7 rfl)
theorem Top.g__law_due (T : Top w K mg) : mg ("_law_due" : Str) = some (.ref (He.ga K ("_law_due" : Str))) := by obtain ⟨h, X, G, c⟩ := T; exact He.glo_ok X G (c.d.fact 8 rfl)
theorem Top.g_law (T : Top w K mg) : mg ("law" : Str) = some (.ref (He.ga K ("law" : Str))) := by obtain ⟨h, X, G, c⟩ := T; exact He.glo_ok X G (c.d.fact 9 rfl)
theorem Top.g_LinkworkError (T : Top w K mg) : mg ("LinkworkError" : Str) = some (.ref (He.ga K ("LinkworkError" : Str))) := by obtain ⟨h, X, G, c⟩ := T; exact He.glo_ok X G (c.d.fact 10 rfl)
theorem Top.g_ByZero (T : Top w K mg) : mg ("ByZero" : Str) = some (.ref (He.ga K ("ByZero" : Str))) := by obtain ⟨h, X, G, c⟩ := T; exact He.glo_ok X G (c.d.fact 11 rfl)
theorem Top.g_Ratio (T : Top w K mg) : mg ("Ratio" : Str) = some (.ref (He.ga K ("Ratio" : Str))) := by obtain ⟨h, X, G, c⟩ := T; exact He.glo_ok X G (c.d.fact 12 rfl)
theorem Top.n_abs (T : Top w K mg) : mg ("abs" : Str) = none := by obtain ⟨h, X, G, c⟩ := T; exact He.free_ok X G (c.d.fact 13 rfl)
theorem Top.n_dict (T : Top w K mg) : mg ("dict" : Str) = none := by obtain ⟨h, X, G, c⟩ := T; exact He.free_ok X G (c.d.fact 14 rfl)
theorem Top.n_int (T : Top w K mg) : mg ("int" : Str) = none := by obtain ⟨h, X, G, c⟩ := T; exact He.free_ok X G (c.d.fact 15 rfl)
theorem Top.n_isinstance (T : Top w K mg) : mg ("isinstance" : Str) = none := by obtain ⟨h, X, G, c⟩ := T; exact He.free_ok X G (c.d.fact 16 rfl)
theorem Top.n_len (T : Top w K mg) : mg ("len" : Str) = none := by obtain ⟨h, X, G, c⟩ := T; exact He.free_ok X G (c.d.fact 17 rfl)
theorem Top.n_list (T : Top w K mg) : mg ("list" : Str) = none := by obtain ⟨h, X, G, c⟩ := T; exact He.free_ok X G (c.d.fact 18 rfl)
theorem Top.n_range (T : Top w K mg) : mg ("range" : Str) = none := by obtain ⟨h, X, G, c⟩ := T; exact He.free_ok X G (c.d.fact 19 rfl)
theorem Top.n_sorted (T : Top w K mg) : mg ("sorted" : Str) = none := by obtain ⟨h, X, G, c⟩ := T; exact He.free_ok X G (c.d.fact 20 rfl)
theorem Top.exc_LinkworkError (T : Top w K mg) : PySem.W.excIn K (He.ga K ("LinkworkError" : Str)) He.veBase "ValueError.__new__" = true ∧ PySem.W.keepIn K (.ref (He.ga K ("LinkworkError" : Str))) = true ∧ PySem.W.subIn K (.ref (He.ga K ("LinkworkError" : Str))) (.type "BaseException") = some true ∧ PySem.W.typeIn K (.ref (He.ga K ("LinkworkError" : Str))) = some (.type "type") := He.exc_ok (T.fact 21 rfl)
theorem Top.exc_ByZero (T : Top w K mg) : PySem.W.excIn K (He.ga K ("ByZero" : Str)) He.veBase "ValueError.__new__" = true ∧ PySem.W.keepIn K (.ref (He.ga K ("ByZero" : Str))) = true ∧ PySem.W.subIn K (.ref (He.ga K ("ByZero" : Str))) (.type "BaseException") = some true ∧ PySem.W.typeIn K (.ref (He.ga K ("ByZero" : Str))) = some (.type "type") := He.exc_ok (T.fact 22 rfl)
theorem Top.cls_Ratio (T : Top w K mg) : Cls K (He.ga K ("Ratio" : Str)) := He.cls_ok (T.fact 23 rfl)
theorem Top.na_Ratio_top (T : Top w K mg) : NoAttr K (He.ga K ("Ratio" : Str)) ("top" : Str) := He.noat_ok (T.fact 24 rfl)
theorem Top.na_Ratio_bottom (T : Top w K mg) : NoAttr K (He.ga K ("Ratio" : Str)) ("bottom" : Str) := He.noat_ok (T.fact 25 rfl)
theorem Top.mk_Ratio (T : Top w K mg) : Mk K (He.ga K ("Ratio" : Str)) (He.ma K (He.ga K ("Ratio" : Str)) "__init__") := He.mkr_ok (T.fact 26 rfl)
theorem Top.m_Ratio___eq__ (T : Top w K mg) : Meth K (He.ga K ("Ratio" : Str)) ("__eq__" : Str) (He.ma K (He.ga K ("Ratio" : Str)) ("__eq__" : Str)) := He.meth_ok (T.fact 27 rfl)
theorem Top.m_Ratio___add__ (T : Top w K mg) : Meth K (He.ga K ("Ratio" : Str)) ("__add__" : Str) (He.ma K (He.ga K ("Ratio" : Str)) ("__add__" : Str)) := He.meth_ok (T.fact 28 rfl)
theorem Top.m_Ratio___sub__ (T : Top w K mg) : Meth K (He.ga K ("Ratio" : Str)) ("__sub__" : Str) (He.ma K (He.ga K ("Ratio" : Str)) ("__sub__" : Str)) := He.meth_ok (T.fact 29 rfl)
theorem Top.m_Ratio___mul__ (T : Top w K mg) : Meth K (He.ga K ("Ratio" : Str)) ("__mul__" : Str) (He.ma K (He.ga K ("Ratio" : Str)) ("__mul__" : Str)) := He.meth_ok (T.fact 30 rfl)
theorem Top.m_Ratio___neg__ (T : Top w K mg) : Meth K (He.ga K ("Ratio" : Str)) ("__neg__" : Str) (He.ma K (He.ga K ("Ratio" : Str)) ("__neg__" : Str)) := He.meth_ok (T.fact 31 rfl)
theorem Top.exm_ByZero_ByZero (T : Top w K mg) : PySem.W.exmOne K (.ref (He.ga K ("ByZero" : Str))) (.ref (He.ga K ("ByZero" : Str))) = some true := He.exm_ok (T.fact 32 rfl)
theorem Top.x_imp_gcd (T : Top w K mg) : ex_imp_gcd K = true := T.ex 0 rfl
theorem Top.x_excC_LinkworkError (T : Top w K mg) : ex_excC_LinkworkError K = true := T.ex 1 rfl
theorem Top.x_excC_ByZero (T : Top w K mg) : ex_excC_ByZero K = true := T.ex 2 rfl
theorem Top.x_isi_Ratio (T : Top w K mg) : ex_isi_Ratio K = true := T.ex 3 rfl
theorem Top.x_first_Ratio (T : Top w K mg) : ex_first_Ratio K = true := T.ex 4 rfl
theorem Top.x_kit_t_dict_t_dict (T : Top w K mg) : ex_kit_t_dict_t_dict K = true := T.ex 5 rfl
theorem Top.x_kit_ByZero_LinkworkError (T : Top w K mg) : ex_kit_ByZero_LinkworkError K = true := T.ex 6 rfl
theorem Top.x_kit_Ratio_Ratio (T : Top w K mg) : ex_kit_Ratio_Ratio K = true := T.ex 7 rfl
theorem Top.gcdM (T : Top w K mg) : mg ("gcd" : Str) = some (.builtin "math.gcd") := by have e := T.x_imp_gcd; obtain ⟨h, X, G, c⟩ := T; exact PySem.W.mg_of X G (He.eqO_ok e)
theorem Top.f_Ratio___init__ (T : Top w K mg) : FunD K ("__init__" : Str) ("Ratio.__init__" : Str) (defArgs s_Ratio___init__) (defBody s_Ratio___init__) (defScope s_Ratio___init__) (d_Ratio___init__.dvs K) (d_Ratio___init__.kws K) (He.ma K (He.ga K ("Ratio" : Str)) ("__init__" : Str)) (fdOf K d_Ratio___init__) := T.fun_ 0 rfl
theorem Top.b0_Ratio___init__ (T : Top w K mg) : ∃ ds, Vals ((d_Ratio___init__.dvs K).drop 0) ds ∧ Binds K (fdOf K d_Ratio___init__) ["self", "numerator", "denominator"] ds := T.f_Ratio___init__.binds1 2 0 (by intro z; cases z) rfl fun _ _ _ _ _ _ _ us its h1 h2 => match us, its, h1, h2 with | [_, _], [_], _, _ => ⟨_, rfl, rfl⟩
theorem Top.b1_Ratio___init__ (T : Top w K mg) : ∃ ds, Vals ((d_Ratio___init__.dvs K).drop 1) ds ∧ Binds K (fdOf K d_Ratio___init__) ["self", "numerator", "denominator"] ds := T.f_Ratio___init__.binds1 3 1 (by intro z; cases z) rfl fun _ _ _ _ _ _ _ us its h1 h2 => match us, its, h1, h2 with | [_, _, _], [_], _, _ => ⟨_, rfl, rfl⟩
theorem sc_Ratio___init__ : FnScope ["self", "numerator", "denominator", "divisor"] ["self", "numerator", "denominator"] (defScope s_Ratio___init__) := ⟨rfl, rfl, rfl, by decide +kernel, rfl, by decide +kernel, by decide +kernel⟩
theorem Top.f_Ratio___eq__ (T : Top w K mg) : FunD K ("__eq__" : Str) ("Ratio.__eq__" : Str) (defArgs s_Ratio___eq__) (defBody s_Ratio___eq__) (defScope s_Ratio___eq__) (d_Ratio___eq__.dvs K) (d_Ratio___eq__.kws K) (He.ma K (He.ga K ("Ratio" : Str)) ("__eq__" : Str)) (fdOf K d_Ratio___eq__) := T.fun_ 1 rfl
theorem Top.b_Ratio___eq__ (T : Top w K mg) : Binds K (fdOf K d_Ratio___eq__) ["self", "other"] [] := (show FunD K ("__eq__" : Str) ("Ratio.__eq__" : Str) (defArgs s_Ratio___eq__) (defBody s_Ratio___eq__) (defScope s_Ratio___eq__) [] (d_Ratio___eq__.kws K) (He.ma K (He.ga K ("Ratio" : Str)) ("__eq__" : Str)) (fdOf K d_Ratio___eq__) from T.f_Ratio___eq__).bindsN fun _ _ _ _ _ _ us hl => match us, hl with | [_, _], _ => rfl
theorem sc_Ratio___eq__ : FnScope ["self", "other"] ["self", "other"] (defScope s_Ratio___eq__) := ⟨rfl, rfl, rfl, by decide +kernel, rfl, by decide +kernel, by decide +kernel⟩
theorem Top.f_Ratio___add__ (T : Top w K mg) : FunD K ("__add__" : Str) ("Ratio.__add__" : Str) (defArgs s_Ratio___add__) (defBody s_Ratio___add__) (defScope s_Ratio___add__) (d_Ratio___add__.dvs K) (d_Ratio___add__.kws K) (He.ma K (He.ga K ("Ratio" : Str)) ("__add__" : Str)) (fdOf K d_Ratio___add__) := T.fun_ 2 rfl
theorem Top.b_Ratio___add__ (T : Top w K mg) : Binds K (fdOf K d_Ratio___add__) ["self", "other"] [] := (show FunD K ("__add__" : Str) ("Ratio.__add__" : Str) (defArgs s_Ratio___add__) (defBody s_Ratio___add__) (defScope s_Ratio___add__) [] (d_Ratio___add__.kws K) (He.ma K (He.ga K ("Ratio" : Str)) ("__add__" : Str)) (fdOf K d_Ratio___add__) from T.f_Ratio___add__).bindsN fun _ _ _ _ _ _ us hl => match us, hl with | [_, _], _ => rfl
theorem sc_Ratio___add__ : FnScope ["self", "other"] ["self", "other"] (defScope s_Ratio___add__) := ⟨rfl, rfl, rfl, by decide +kernel, rfl, by decide +kernel, by decide +kernel⟩
theorem Top.f_Ratio___sub__ (T : Top w K mg) : FunD K ("__sub__" : Str) ("Ratio.__sub__" : Str) (defArgs s_Ratio___sub__) (defBody s_Ratio___sub__) (defScope s_Ratio___sub__) (d_Ratio___sub__.dvs K) (d_Ratio___sub__.kws K) (He.ma K (He.ga K ("Ratio" : Str)) ("__sub__" : Str)) (fdOf K d_Ratio___sub__) := T.fun_ 3 rfl
theorem Top.b_Ratio___sub__ (T : Top w K mg) : Binds K (fdOf K d_Ratio___sub__) ["self", "other"] [] := (show FunD K ("__sub__" : Str) ("Ratio.__sub__" : Str) (defArgs s_Ratio___sub__) (defBody s_Ratio___sub__) (defScope s_Ratio___sub__) [] (d_Ratio___sub__.kws K) (He.ma K (He.ga K ("Ratio" : Str)) ("__sub__" : Str)) (fdOf K d_Ratio___sub__) from T.f_Ratio___sub__).bindsN fun _ _ _ _ _ _ us hl => match us, hl with | [_, _], _ => rfl
theorem sc_Ratio___sub__ : FnScope ["self", "other"] ["self", "other"] (defScope s_Ratio___sub__) := ⟨rfl, rfl, rfl, by decide +kernel, rfl, by decide +kernel, by decide +kernel⟩
theorem Top.f_Ratio___mul__ (T : Top w K mg) : FunD K ("__mul__" : Str) ("Ratio.__mul__" : Str) (defArgs s_Ratio___mul__) (defBody s_Ratio___mul__) (defScope s_Ratio___mul__) (d_Ratio___mul__.dvs K) (d_Ratio___mul__.kws K) (He.ma K (He.ga K ("Ratio" : Str)) ("__mul__" : Str)) (fdOf K d_Ratio___mul__) := T.fun_ 4 rfl
theorem Top.b_Ratio___mul__ (T : Top w K mg) : Binds K (fdOf K d_Ratio___mul__) ["self", "other"] [] := (show FunD K ("__mul__" : Str) ("Ratio.__mul__" : Str) (defArgs s_Ratio___mul__) (defBody s_Ratio___mul__) (defScope s_Ratio___mul__) [] (d_Ratio___mul__.kws K) (He.ma K (He.ga K ("Ratio" : Str)) ("__mul__" : Str)) (fdOf K d_Ratio___mul__) from T.f_Ratio___mul__).bindsN fun _ _ _ _ _ _ us hl => match us, hl with | [_, _], _ => rfl
theorem sc_Ratio___mul__ : FnScope ["self", "other"] ["self", "other"] (defScope s_Ratio___mul__) := ⟨rfl, rfl, rfl, by decide +kernel, rfl, by decide +kernel, by decide +kernel⟩
theorem Top.f_Ratio___neg__ (T : Top w K mg) : FunD K ("__neg__" : Str) ("Ratio.__neg__" : Str) (defArgs s_Ratio___neg__) (defBody s_Ratio___neg__) (defScope s_Ratio___neg__) (d_Ratio___neg__.dvs K) (d_Ratio___neg__.kws K) (He.ma K (He.ga K ("Ratio" : Str)) ("__neg__" : Str)) (fdOf K d_Ratio___neg__) := T.fun_ 5 rfl
theorem Top.b_Ratio___neg__ (T : Top w K mg) : Binds K (fdOf K d_Ratio___neg__) ["self"] [] := (show FunD K ("__neg__" : Str) ("Ratio.__neg__" : Str) (defArgs s_Ratio___neg__) (defBody s_Ratio___neg__) (defScope s_Ratio___neg__) [] (d_Ratio___neg__.kws K) (He.ma K (He.ga K ("Ratio" : Str)) ("__neg__" : Str)) (fdOf K d_Ratio___neg__) from T.f_Ratio___neg__).bindsN fun _ _ _ _ _ _ us hl => match us, hl with | [_], _ => rfl
theorem sc_Ratio___neg__ : FnScope ["self"] ["self"] (defScope s_Ratio___neg__) := ⟨rfl, rfl, rfl, by decide +kernel, rfl, by decide +kernel, by decide +kernel⟩
theorem Top.f_sum_of (T : Top w K mg) : FunD K ("sum_of" : Str) ("sum_of" : Str) (defArgs s_sum_of) (defBody s_sum_of) (defScope s_sum_of) (d_sum_of.dvs K) (d_sum_of.kws K) (He.ga K ("sum_of" : Str)) (fdOf K d_sum_of) := T.fun_ 6 rfl
theorem Top.b_sum_of (T : Top w K mg) : Binds K (fdOf K d_sum_of) ["terms"] [] := (show FunD K ("sum_of" : Str) ("sum_of" : Str) (defArgs s_sum_of) (defBody s_sum_of) (defScope s_sum_of) [] (d_sum_of.kws K) (He.ga K ("sum_of" : Str)) (fdOf K d_sum_of) from T.f_sum_of).bindsN fun _ _ _ _ _ _ us hl => match us, hl with | [_], _ => rfl
theorem sc_sum_of : FnScope ["terms", "total", "term"] ["terms"] (defScope s_sum_of) := ⟨rfl, rfl, rfl, by decide +kernel, rfl, by decide +kernel, by decide +kernel⟩
theorem Top.f_set_equations (T : Top w K mg) : FunD K ("set_equations" : Str) ("set_equations" : Str) (defArgs s_set_equations) (defBody s_set_equations) (defScope s_set_equations) (d_set_equations.dvs K) (d_set_equations.kws K) (He.ga K ("set_equations" : Str)) (fdOf K d_set_equations) := T.fun_ 7 rfl
theorem Top.b_set_equations (T : Top w K mg) : Binds K (fdOf K d_set_equations) ["ends", "fields"] [] := (show FunD K ("set_equations" : Str) ("set_equations" : Str) (defArgs s_set_equations) (defBody s_set_equations) (defScope s_set_equations) [] (d_set_equations.kws K) (He.ga K ("set_equations" : Str)) (fdOf K d_set_equations) from T.f_set_equations).bindsN fun _ _ _ _ _ _ us hl => match us, hl with | [_, _], _ => rfl
theorem sc_set_equations : FnScope ["ends", "fields", "found", "field", "is_flow", "end", "terms"] ["ends", "fields"] (defScope s_set_equations) := ⟨rfl, rfl, rfl, by decide +kernel, rfl, by decide +kernel, by decide +kernel⟩
theorem Top.f__name (T : Top w K mg) : FunD K ("_name" : Str) ("_name" : Str) (defArgs s__name) (defBody s__name) (defScope s__name) (d__name.dvs K) (d__name.kws K) (He.ga K ("_name" : Str)) (fdOf K d__name) := T.fun_ 8 rfl
theorem Top.b__name (T : Top w K mg) : Binds K (fdOf K d__name) ["end", "field"] [] := (show FunD K ("_name" : Str) ("_name" : Str) (defArgs s__name) (defBody s__name) (defScope s__name) [] (d__name.kws K) (He.ga K ("_name" : Str)) (fdOf K d__name) from T.f__name).bindsN fun _ _ _ _ _ _ us hl => match us, hl with | [_, _], _ => rfl
theorem sc__name : FnScope ["end", "field", "path", "is_outside"] ["end", "field"] (defScope s__name) := ⟨rfl, rfl, rfl, by decide +kernel, rfl, by decide +kernel, by decide +kernel⟩
theorem Top.f__variable (T : Top w K mg) : FunD K ("_variable" : Str) ("_variable" : Str) (defArgs s__variable) (defBody s__variable) (defScope s__variable) (d__variable.dvs K) (d__variable.kws K) (He.ga K ("_variable" : Str)) (fdOf K d__variable) := T.fun_ 9 rfl
theorem Top.b__variable (T : Top w K mg) : Binds K (fdOf K d__variable) ["end", "field"] [] := (show FunD K ("_variable" : Str) ("_variable" : Str) (defArgs s__variable) (defBody s__variable) (defScope s__variable) [] (d__variable.kws K) (He.ga K ("_variable" : Str)) (fdOf K d__variable) from T.f__variable).bindsN fun _ _ _ _ _ _ us hl => match us, hl with | [_, _], _ => rfl
theorem sc__variable : FnScope ["end", "field"] ["end", "field"] (defScope s__variable) := ⟨rfl, rfl, rfl, by decide +kernel, rfl, by decide +kernel, by decide +kernel⟩
theorem Top.f__law_stream (T : Top w K mg) : FunD K ("_law_stream" : Str) ("_law_stream" : Str) (defArgs s__law_stream) (defBody s__law_stream) (defScope s__law_stream) (d__law_stream.dvs K) (d__law_stream.kws K) (He.ga K ("_law_stream" : Str)) (fdOf K d__law_stream) := T.fun_ 10 rfl
theorem Top.b__law_stream (T : Top w K mg) : Binds K (fdOf K d__law_stream) ["script"] [] := (show FunD K ("_law_stream" : Str) ("_law_stream" : Str) (defArgs s__law_stream) (defBody s__law_stream) (defScope s__law_stream) [] (d__law_stream.kws K) (He.ga K ("_law_stream" : Str)) (fdOf K d__law_stream) from T.f__law_stream).bindsN fun _ _ _ _ _ _ us hl => match us, hl with | [_], _ => rfl
theorem sc__law_stream : FnScope ["script", "mixed", "cell"] ["script"] (defScope s__law_stream) := ⟨rfl, rfl, rfl, by decide +kernel, rfl, by decide +kernel, by decide +kernel⟩
theorem Top.f__law_draw (T : Top w K mg) : FunD K ("_law_draw" : Str) ("_law_draw" : Str) (defArgs s__law_draw) (defBody s__law_draw) (defScope s__law_draw) (d__law_draw.dvs K) (d__law_draw.kws K) (He.ga K ("_law_draw" : Str)) (fdOf K d__law_draw) := T.fun_ 11 rfl
theorem Top.b__law_draw (T : Top w K mg) : Binds K (fdOf K d__law_draw) ["stream", "many"] [] := (show FunD K ("_law_draw" : Str) ("_law_draw" : Str) (defArgs s__law_draw) (defBody s__law_draw) (defScope s__law_draw) [] (d__law_draw.kws K) (He.ga K ("_law_draw" : Str)) (fdOf K d__law_draw) from T.f__law_draw).bindsN fun _ _ _ _ _ _ us hl => match us, hl with | [_, _], _ => rfl
theorem sc__law_draw : FnScope ["stream", "many", "value"] ["stream", "many"] (defScope s__law_draw) := ⟨rfl, rfl, rfl, by decide +kernel, rfl, by decide +kernel, by decide +kernel⟩
theorem Top.f__law_ends (T : Top w K mg) : FunD K ("_law_ends" : Str) ("_law_ends" : Str) (defArgs s__law_ends) (defBody s__law_ends) (defScope s__law_ends) (d__law_ends.dvs K) (d__law_ends.kws K) (He.ga K ("_law_ends" : Str)) (fdOf K d__law_ends) := T.fun_ 12 rfl
theorem Top.b__law_ends (T : Top w K mg) : Binds K (fdOf K d__law_ends) ["stream"] [] := (show FunD K ("_law_ends" : Str) ("_law_ends" : Str) (defArgs s__law_ends) (defBody s__law_ends) (defScope s__law_ends) [] (d__law_ends.kws K) (He.ga K ("_law_ends" : Str)) (fdOf K d__law_ends) from T.f__law_ends).bindsN fun _ _ _ _ _ _ us hl => match us, hl with | [_], _ => rfl
theorem sc__law_ends : FnScope ["stream", "names", "found", "name", "outside"] ["stream"] (defScope s__law_ends) := ⟨rfl, rfl, rfl, by decide +kernel, rfl, by decide +kernel, by decide +kernel⟩
theorem Top.f__law_named (T : Top w K mg) : FunD K ("_law_named" : Str) ("_law_named" : Str) (defArgs s__law_named) (defBody s__law_named) (defScope s__law_named) (d__law_named.dvs K) (d__law_named.kws K) (He.ga K ("_law_named" : Str)) (fdOf K d__law_named) := T.fun_ 13 rfl
theorem Top.b__law_named (T : Top w K mg) : Binds K (fdOf K d__law_named) ["end", "field"] [] := (show FunD K ("_law_named" : Str) ("_law_named" : Str) (defArgs s__law_named) (defBody s__law_named) (defScope s__law_named) [] (d__law_named.kws K) (He.ga K ("_law_named" : Str)) (fdOf K d__law_named) from T.f__law_named).bindsN fun _ _ _ _ _ _ us hl => match us, hl with | [_, _], _ => rfl
theorem sc__law_named : FnScope ["end", "field", "name"] ["end", "field"] (defScope s__law_named) := ⟨rfl, rfl, rfl, by decide +kernel, rfl, by decide +kernel, by decide +kernel⟩
theorem Top.f__law_due (T : Top w K mg) : FunD K ("_law_due" : Str) ("_law_due" : Str) (defArgs s__law_due) (defBody s__law_due) (defScope s__law_due) (d__law_due.dvs K) (d__law_due.kws K) (He.ga K ("_law_due" : Str)) (fdOf K d__law_due) := T.fun_ 14 rfl
theorem Top.b__law_due (T : Top w K mg) : Binds K (fdOf K d__law_due) ["ends", "fields"] [] := (show FunD K ("_law_due" : Str) ("_law_due" : Str) (defArgs s__law_due) (defBody s__law_due) (defScope s__law_due) [] (d__law_due.kws K) (He.ga K ("_law_due" : Str)) (fdOf K d__law_due) from T.f__law_due).bindsN fun _ _ _ _ _ _ us hl => match us, hl with | [_, _], _ => rfl
theorem sc__law_due : FnScope ["ends", "fields", "found", "field", "rows", "end", "k", "left", "row"] ["ends", "fields"] (defScope s__law_due) := ⟨rfl, rfl, rfl, by decide +kernel, rfl, by decide +kernel, by decide +kernel⟩
theorem Top.f_law (T : Top w K mg) : FunD K ("law" : Str) ("law" : Str) (defArgs s_law) (defBody s_law) (defScope s_law) (d_law.dvs K) (d_law.kws K) (He.ga K ("law" : Str)) (fdOf K d_law) := T.fun_ 15 rfl
theorem Top.b_law (T : Top w K mg) : Binds K (fdOf K d_law) ["script"] [] := (show FunD K ("law" : Str) ("law" : Str) (defArgs s_law) (defBody s_law) (defScope s_law) [] (d_law.kws K) (He.ga K ("law" : Str)) (fdOf K d_law) from T.f_law).bindsN fun _ _ _ _ _ _ us hl => match us, hl with | [_], _ => rfl
theorem sc_law : FnScope ["script", "stream", "ends", "fields", "name", "given", "rows", "actual"] ["script"] (defScope s_law) := ⟨rfl, rfl, rfl, by decide +kernel, rfl, by decide +kernel, by decide +kernel⟩
end
/-! ### the law's own helpers: the stream -/
def spStream (K : PySem.W.Frag) : Sp := fun vs H Q _ => ∃ (a : Addr) (ns : List Int), vs = [.ref a] ∧ SqL K H a (ns.map V.int) ∧ ns.length ≤ 63 ∧ ∀ s H', Same H H' → Strm H' s → Q (.ref s) H'
def spDraw : Sp := fun vs H Q _ => ∃ (s : Addr) (n : Int), vs = [.ref s, .int n] ∧ Strm H s ∧ 0 < n ∧ n < 18446744073709551616 ∧ ∀ v, 0 ≤ v → v < n → Q (.int v) H
section
variable {P : Program} {w : World} {K : PySem.W.Frag} {mg : Str → Option Value} {base : Heap}
theorem small31 {i : Int} (h0 : 0 ≤ i) (h : i < 2147483648) : i.natAbs < 2 ^ 31 := by omega
theorem mulW31 {i j : Int} (h0 : 0 ≤ i) (h : i < 2147483648) (h2 : 0 ≤ j) (h3 : j < 2147483648) : CMulW i j := wide_mul (a := 31) (b := 31) (by omega) (by omega) (by decide) (by decide) (by decide)
theorem item_int {ns : List Int} {i : Nat} {x : V} (h : (ns.map V.int)[i]? = some x) : ∃ z, ns[i]? = some z ∧ x = .int z := by
  rw [List.getElem?_map] at h
  cases e : ns[i]? with
  | none => rw [e] at h; cases h
  | some z => rw [e] at h; exact ⟨z, rfl, (Option.some.inj h).symm⟩
theorem atI_ints {ns : List Int} {j : Int} (h0 : 0 ≤ j) (h : j < ((ns.map V.int).length : Int)) : ∃ z, atI (ns.map V.int) j = some (.int z) := by
  rw [List.length_map] at h
  have hk : j.toNat < ns.length := by omega
  have e : j = ((j.toNat : Nat) : Int) := by omega
  refine ⟨ns[j.toNat], ?_⟩
  have q : atI (ns.map V.int) ((j.toNat : Nat) : Int) = some (.int ns[j.toNat]) := atI_nat (by rw [List.getElem?_map, List.getElem?_eq_getElem hk] <;> rfl)
  rw [← e] at q
  exact q
theorem ok__law_draw (T : Top w K mg) : FnOk P w K mg base CX0 1 (He.ga K ("_law_draw" : Str)) (fdOf K d__law_draw) ["stream", "many"] spDraw := by
  refine (T.f__law_draw).ok sc__law_draw (fun vs H Q E h => ?_) (fun cdv A outer s H vs Q E hr h => ?_)
  · obtain ⟨a, n, rfl, _⟩ := h
    rfl
  · obtain ⟨s0, n, rfl, ⟨l, ns, hs, hl, h63⟩, h0, h1, k⟩ := h
    refine ⟨_, PSs.nox (pss_open s0 l (C8.pss_cut (ps_if (PW.pt (pw_and (pt_cmpR op_eq (pe_ix (ix_listK (K := K) rfl) (pv 0) pe_int (fun _ _ => rfl)) pe_int (nomark _)) (pw_and1 (pt_cmpR op_lt (pe_ix (ix_listK (K := K) rfl) (pv 0) pe_int (fun _ _ => rfl)) (pe_callB (call_lenK (K := K) rfl) (by rfl) T.n_len PySem.boot_len (pa_cons (pe_ix (ix_listK (K := K) rfl) (pv 0) pe_int (fun _ _ => rfl)) pa_nil)) (nomark _)))))
    (pss_cons (ps_asg (pe_callB call_abs (by rfl) T.n_abs (by decide +kernel) (pa_cons (pe_callTy call_int1 (by rfl) T.n_int (by decide +kernel) (pa_cons (pe_ix (ix_listK (K := K) rfl) (pe_ix (ix_listK (K := K) rfl) (pv 0) pe_int (fun _ _ => rfl)) (pe_ix (ix_listK (K := K) rfl) (pv 0) pe_int (fun _ _ => rfl)) (fun _ _ => rfl)) pa_nil)) pa_nil)) (pg_sub (pv 0) pe_int set_list))
    (pss_one (ps_asg (pe_op op_add (pe_ix (ix_listK (K := K) rfl) (pv 0) pe_int (fun _ _ => rfl)) pe_int) (pg_sub (pv 0) pe_int set_list))))
    pss_nil)
    (pss_cons (ps_if (pt_cmpR op_eq (pe_ix (ix_listK (K := K) rfl) (pv 0) pe_int (fun _ _ => rfl)) pe_int (nomark _))
    (pss_cons (ps_asg (pe_op op_mod (pe_callTy call_int1 (by rfl) T.n_int (by decide +kernel) (pa_cons (pe_op op_add (pe_op op_mulW (pe_ix (ix_listK (K := K) rfl) (pv 0) pe_int (fun _ _ => rfl)) pe_int) pe_int) pa_nil)) pe_int) (pg_sub (pv 0) pe_int set_list))
    (pss_one (ps_ret (pe_op op_mod (pe_callTy call_int1 (by rfl) T.n_int (by decide +kernel) (pa_cons (pe_op op_fdivG (pe_ix (ix_listK (K := K) rfl) (pv 0) pe_int (fun _ _ => rfl)) pe_int) pa_nil)) (pv 1)))))
    pss_nil)
    (pss_cons (ps_set (i := 2) sc__law_draw.nd rfl (Or.inl rfl) (pe_op op_mod (pe_callTy call_int1 (by rfl) T.n_int (by decide +kernel) (pa_cons (pe_ix (ix_listK (K := K) rfl) (pv 0) pe_int (fun _ _ => rfl)) pa_nil)) (pv 1)))
    (pss_cons (ps_asg (pe_op op_fdivG (pe_ix (ix_listK (K := K) rfl) (pv 0) pe_int (fun _ _ => rfl)) (pv 1)) (pg_sub (pv 0) pe_int set_list))
    (pss_one (ps_ret (pv 2)))))))), ?_⟩
    refine r_open hs (fun i j m hj => ?_)
    have hls : l ≠ s0 := ne_of hl hs (by intro z; cases z)
    refine r_cut (fun σ H' => σ = [some (.ref s0), some (.int n), none] ∧ ∃ i j, okS j m ∧ H' = upd H s0 (.lst (cellsV l i j m))) ?_ ?_
    · have hl' : ∀ o, SqL K (upd H s0 o) l (ns.map V.int) := fun o => SqL.of (by rw [upd_ne hls]; exact hl)
      walk_at "go"
      refine ite_d (fun c1 => ?_) (fun c1 => ?_)
      · walk_at "go"
        refine ⟨_, _, rfl, .inl (hl' _), ?_⟩
        walk_at "go"
        refine ite_d (fun c2 => ?_) (fun c2 => ?_)
        · obtain ⟨z, hz⟩ := atI_ints hj.1 c2
          walk_at "go"
          refine r_ixL (hl' _) hz ?_
          walk_at "go"
          exact ⟨rfl, _, j + 1, ⟨by have := hj.1; omega, hj.2⟩, by rw [upd_upd, upd_upd] <;> rfl⟩
        · walk_at "go"
          exact ⟨rfl, i, j, hj, rfl⟩
      · walk_at "go"
        exact ⟨rfl, i, j, hj, rfl⟩
    · rintro σ H' ⟨rfl, i, j, hj, rfl⟩
      walk_at "go"
      refine ite_d (fun c1 => ?_) (fun c1 => ?_)
      · walk_at "go"
        refine ⟨mulW31 hj.2.1 hj.2.2 (by decide) (by decide), ?_⟩
        walk_at "go"
        refine ⟨cdivG (b := 64) (by omega) (by omega) (by decide) (by decide), ?_⟩
        walk_at "go"
        refine ⟨i, j, (m * 48271 + 11) % 2147483647, upd_same, ⟨hj.1, by omega, by omega⟩, ?_⟩
        rw [upd_back2 hs]
        exact k _ (Int.emod_nonneg _ (by omega)) (Int.emod_lt_of_pos _ h0)
      · walk_at "go"
        refine ⟨cdivG (b := 64) (by omega) (by omega) (by decide) (by decide), ?_⟩
        walk_at "go"
        refine ⟨i.fdiv n, j, m, upd_same, hj, ?_⟩
        rw [upd_back2 hs]
        exact k _ (Int.emod_nonneg _ (by omega)) (Int.emod_lt_of_pos _ h0)
/-- a draw: any number below -/
theorem draw_at {s : Addr} {n : Int} {H : Hp} {Q : VK} {E : XK} (hS : Strm H s) (h0 : 0 < n) (h1 : n < 18446744073709551616) (k : ∀ v, 0 ≤ v → v < n → Q (.int v) H) : spDraw [.ref s, .int n] H Q E := ⟨s, n, rfl, hS, h0, h1, k⟩
theorem ok__law_stream (T : Top w K mg) : FnOk P w K mg base CX0 1 (He.ga K ("_law_stream" : Str)) (fdOf K d__law_stream) ["script"] (spStream K) := by
  refine (T.f__law_stream).ok sc__law_stream (fun vs H Q E h => ?_) (fun cdv A outer s H vs Q E hr h => ?_)
  · obtain ⟨a, n, rfl, _⟩ := h
    rfl
  · obtain ⟨a, ns, rfl, hS, h63, k⟩ := h
    refine ⟨_, PSs.nox (pss_shut (pss_cons (ps_set (i := 1) sc__law_stream.nd rfl (Or.inl rfl) pe_int)
    (pss_cons (ps_for PassesOwn.never rfl (pi_listK (K := K) rfl (pv 0)) (pg_name (i := 2) sc__law_stream.nd rfl (Or.inl rfl))
    (pss_one (ps_set (i := 1) sc__law_stream.nd rfl (Or.inl rfl) (pe_op op_mod (pe_callTy call_int1 (by rfl) T.n_int (by decide +kernel) (pa_cons (pe_op op_add (pe_op op_add (pe_op op_mulW (pv 1) pe_int) (pe_op op_mod (pe_callTy call_int1 (by rfl) T.n_int (by decide +kernel) (pa_cons (pv 2) pa_nil)) pe_int)) pe_int) pa_nil)) pe_int))))
    (pss_one (ps_ret (pe_lst (pa_cons (pe_callTy (call_listK (K := K) rfl) (by rfl) T.n_list (by decide +kernel) (pa_cons (pv 0) pa_nil)) (pa_cons pe_int (pa_cons pe_int (pa_cons (pv 1) pa_nil)))))))))), ?_⟩
    refine r_shut ?_
    walk_at "go"
    refine ⟨⟨_, hS⟩, for_lst (xs := ns.map V.int) (fun i σ H' => H' = H ∧ ∃ (m : Int) (v : Option V), σ = [some (.ref a), some (.int m), v] ∧ 0 ≤ m ∧ m < 2147483648) ⟨rfl, 17, none, rfl, by omega, by omega⟩ (fun i σ H' _ h => by rw [h.1]; exact hS) ?_ ?_⟩
    · rintro i x σ H' hx ⟨rfl, m, v, rfl, h0, h1⟩
      obtain ⟨z, hz, rfl⟩ := item_int hx
      walk_at "go"
      refine ⟨mulW31 h0 h1 (by decide) (by decide), ?_⟩
      walk_at "go"
      exact ⟨rfl, _, _, rfl, Int.emod_nonneg _ (by omega), by show _ % (2147483647 : Int) < _; omega⟩
    · rintro σ H' ⟨rfl, m, v, rfl, h0, h1⟩
      walk_at "go"
      refine ⟨_, _, rfl, .inl hS, fun l hl => ?_⟩
      walk_at "go"
      refine ⟨by show 4 ≤ sizeLine; decide, fun p hp => ?_⟩
      have hlp : l ≠ p := ne_of_none upd_same hp
      have s1 : Same H' (upd H' l (.lst (ns.map V.int))) := same_new hl
      have hp0 : H' p = none := s1.free hp
      refine ⟨p, l, 0, 0, m, rfl, upd_same, ⟨by omega, h0, h1⟩, k p _ (fun b o e => ?_) ⟨l, ns, upd_same, by rw [upd_ne hlp, upd_ne hlp, upd_same], h63⟩⟩
      rw [upd_ne (ne_of_none e hp0), upd_ne (ne_of_none e hp0)]
      exact s1 b o e
end
/-! ### the law's pair in lowest terms -/
def gcdI (n d : Int) : Int := ((Nat.gcd n.natAbs d.natAbs : Nat) : Int)
def sgc (n d : Int) : Int := if d < 0 then -gcdI n d else gcdI n d
def pn (n d : Int) : Int := n.fdiv (sgc n d)
def pd (n d : Int) : Int := d.fdiv (sgc n d)
theorem gcdI_pos {n d : Int} (h : d ≠ 0) : 0 < gcdI n d := by
  have : 0 < Nat.gcd n.natAbs d.natAbs := Nat.gcd_pos_of_pos_right _ (Int.natAbs_pos.mpr h)
  unfold gcdI
  omega
theorem sgc_ne {n d : Int} (h : d ≠ 0) : sgc n d ≠ 0 := by
  have := gcdI_pos (n := n) h
  unfold sgc
  split <;> omega
theorem sgc_abs {n d : Int} (h : d ≠ 0) : (sgc n d).natAbs ≤ d.natAbs := by
  have h1 : Nat.gcd n.natAbs d.natAbs ≤ d.natAbs := Nat.gcd_le_right _ (Int.natAbs_pos.mpr h)
  unfold sgc gcdI
  split <;> omega
section
variable {P : Program} {w : World} {K : PySem.W.Frag} {mg : Str → Option Value} {base : Heap}
/-! ### Ratios -/
def rfl2 (n d : Int) : List (Str × V) := [("top", .int n), ("bottom", .int d)]
theorem r2_top (n d : Int) : (rfl2 n d).lookup ("top" : Str) = some (.int n) := rfl
theorem r2_bot (n d : Int) : (rfl2 n d).lookup ("bottom" : Str) = some (.int d) := by
  show (match (("bottom" : Str) == "top") with | true => some (V.int n) | false => List.lookup ("bottom" : Str) [("bottom", V.int d)]) = some (.int d)
  rw [show ((("bottom" : Str) == "top") = false) from by decide +kernel]
  rfl
theorem r2_put (n d : Int) : putF "bottom" (.int d) (putF "top" (.int n) []) = rfl2 n d := by
  show (if ("top" : Str) = "bottom" then [(("top" : Str), V.int d)] else (("top" : Str), V.int n) :: putF "bottom" (V.int d) []) = rfl2 n d
  rw [if_neg (show ¬ (("top" : Str) = "bottom") from by decide +kernel)]
  rfl
def RatAt (K : PySem.W.Frag) (H : Hp) (x : Addr) (n d : Int) : Prop := ∃ dx, H x = some (.ins (He.ga K "Ratio") dx (rfl2 n d))
theorem RatAt.mono {H H' : Hp} {x : Addr} {n d : Int} (h : RatAt K H x n d) (e : Same H H') : RatAt K H' x n d := by
  obtain ⟨dx, h⟩ := h
  exact ⟨dx, e _ _ h⟩
def spInit (K : PySem.W.Frag) : Sp := fun vs H Q E => ∃ (x dx : Addr) (n d : Int), vs = [.ref x, .int n, .int d] ∧ H x = some (.ins (He.ga K "Ratio") dx []) ∧ Bits 8000 d ∧ (d = 0 → E (.ref (He.ga K "ByZero")) none H) ∧
  (d ≠ 0 → Q .non (upd H x (.ins (He.ga K "Ratio") dx (rfl2 (pn n d) (pd n d)))))
theorem ok_Ratio___init__ (T : Top w K mg) : FnOk P w K mg base (L2.CX P w) 1 (He.ma K (He.ga K ("Ratio" : Str)) ("__init__" : Str)) (fdOf K d_Ratio___init__) ["self", "numerator", "denominator"] (spInit K) := by
  refine (T.f_Ratio___init__).ok sc_Ratio___init__ (fun vs H Q E h => ?_) (fun cdv A outer s H vs Q E hr h => ?_)
  · obtain ⟨x, dx, n, d, rfl, _⟩ := h
    rfl
  · obtain ⟨x, dx, n, d, rfl, hx, hb, k0, k1⟩ := h
    refine ⟨_, (pss_cons (ps_if (pt_cmpR op_eq (pv 2) pe_int (nomark _))
    (pss_one (ps_raise rfl (takes_of rfl rfl rfl rfl) (pmk_own PySem.F.excBase_ValueError T.exc_ByZero.1 T.g_ByZero T.exc_ByZero.2.1 (raises_own T.exc_ByZero.2.2.1 T.exc_ByZero.2.2.2) rfl)))
    pss_nil)
    (pss_cons (ps_set (i := 3) sc_Ratio___init__.nd rfl (Or.inl rfl) (pe_callBfun cr_gcd rfl T.gcdM (pa_cons (pv 1) (pa_cons (pv 2) pa_nil))))
    (C8.pss_cut (ps_if (pt_cmpR op_lt (pv 2) pe_int (nomark _))
    (pss_one (ps_set (i := 3) sc_Ratio___init__.nd rfl (Or.inl rfl) (pe_un un_neg (pv 3))))
    pss_nil)
    (pss_cons (ps_fldK (K := K) rfl (pv 0) (pe_op op_fdivG (pv 1) (pv 3)) rfl)
    (pss_one (ps_fldK (K := K) rfl (pv 0) (pe_op op_fdivG (pv 2) (pv 3)) rfl)))))), ?_⟩
    walk_at "go"
    refine ite_d (fun c => ?_) (fun c => ?_)
    · exact k0 (vint_inj c)
    · walk_at "go"
      have hd : d ≠ 0 := vint_ne c
      refine r_cut (fun σ H' => σ = [some (.ref x), some (.int n), some (.int d), some (.int (sgc n d))] ∧ H' = H) ?_ ?_
      · walk_at "go"
        refine ite_d (fun c => ?_) (fun c => ?_)
        · walk_at "go"
          refine ⟨?_, rfl⟩
          have e : sgc n d = -(((n.natAbs.gcd d.natAbs : Nat)) : Int) := by rw [sgc, if_pos c] <;> rfl
          rw [e] <;> rfl
        · walk_at "go"
          refine ⟨?_, rfl⟩
          have e : sgc n d = (((n.natAbs.gcd d.natAbs : Nat)) : Int) := by rw [sgc, if_neg c] <;> rfl
          rw [e] <;> rfl
      · rintro σ H' ⟨rfl, rfl⟩
        have cd : ∀ i, CDivG i (sgc n d) := fun i => Bits.divG (sgc_ne hd) (Bits.of_le (sgc_abs hd) hb) (by decide)
        walk_at "go"
        refine ⟨cd _, ?_⟩
        walk_at "go"
        refine ⟨_, _, _, _, rfl, hx, T.cls_Ratio, T.na_Ratio_top, (by show 0 < 1000; decide), ?_⟩
        walk_at "go"
        refine ⟨cd _, ?_⟩
        walk_at "go"
        refine ⟨_, _, _, _, rfl, upd_same, T.cls_Ratio, T.na_Ratio_bottom, (by show 1 < 1000; decide), ?_⟩
        have z := k1 hd
        rw [upd_upd]
        have e := r2_put (pn n d) (pd n d)
        show Q .non (upd H' x (.ins _ dx (putF "bottom" (.int (pd n d)) (putF "top" (.int (pn n d)) []))))
        rw [e]
        exact z
end
/-! ### the equations of a set, as plain data -/
abbrev End : Type := Str × Bool
inductive Tr where
  | var (x : Str) | neg (t : Tr) | add (t u : Tr) | zero
def Tr.deep : Tr → Nat
  | .var _ => 1
  | .neg t => t.deep + 1
  | .add t u => max t.deep u.deep + 1
  | .zero => 1
abbrev Eqn : Type := Tr × Tr
def mput (l : List (Key × Eqn)) (k : Key) (e : Eqn) : List (Key × Eqn) :=
  if (l.any fun q => decide (q.1 = k)) = true then l.map (fun q => if q.1 = k then (q.1, e) else q) else l ++ [(k, e)]
theorem mput_len (l : List (Key × Eqn)) (k : Key) (e : Eqn) : (mput l k e).length ≤ l.length + 1 := by
  unfold mput
  split
  · rw [List.length_map]; omega
  · rw [List.length_append, List.length_singleton]; omega
def nmS (e : End) (f : Str) : Str := if e.2 = true then Str.ofString "c." ++ e.1 ++ Str.ofString "." ++ f ++ Str.ofString ".o" else Str.ofString "c." ++ e.1 ++ Str.ofString "." ++ f
def vrS (e : End) (f : Str) : Tr := .var (e.1 ++ Str.ofString "." ++ f)
def termS (f : Str) (e : End) : Tr := if e.2 = true then .neg (vrS e f) else vrS e f
def sumS : List Tr → Tr
  | [] => .zero
  | t :: r => r.foldl .add t
def e0S (es : List End) : End := es.head?.getD (Str.empty, false)
def eqsS (es : List End) (f : End) (acc : List (Key × Eqn)) : List (Key × Eqn) :=
  if f.2 = false then (es.drop 1).foldl (fun a e => mput a (.inr (nmS e f.1)) (vrS (e0S es) f.1, vrS e f.1)) acc
  else if 1 < es.length ∨ (e0S es).2 = false then mput acc (.inr (nmS (e0S es) f.1)) (sumS (es.map (termS f.1)), .zero) else acc
def setS (es : List End) (fs : List End) : List (Key × Eqn) := fs.foldl (fun a f => eqsS es f a) []
/-! ### .. in the heap -/
def EndV (K : PySem.W.Frag) (H : Hp) (v : V) (e : End) : Prop := ∃ t, v = .ref t ∧ SqT K H t [.str e.1, .bl e.2]
theorem EndV.keep {K : PySem.W.Frag} {H H' : Hp} {v : V} {e : End} (h : EndV K H v e) (k : Keep H H') : EndV K H' v e := by
  obtain ⟨t, rfl, h⟩ := h
  exact ⟨t, rfl, SqT.keep h k⟩
abbrev EndsV (K : PySem.W.Frag) (H : Hp) (vs : List V) (es : List End) : Prop := Paired (EndV K H) vs es
theorem EndsV.keep {K : PySem.W.Frag} {H H' : Hp} {vs : List V} {es : List End} (h : EndsV K H vs es) (k : Keep H H') : EndsV K H' vs es := Paired.imp (fun _ _ z => EndV.keep z k) h
inductive TrV (K : PySem.W.Frag) (H : Hp) : V → Tr → Prop
  | var {a : Addr} {x : Str} : SqT K H a [.str "var", .str x, .int 0] → TrV K H (.ref a) (.var x)
  | neg {a : Addr} {v : V} {t : Tr} : SqT K H a [.str "neg", v] → TrV K H v t → TrV K H (.ref a) (.neg t)
  | add {a : Addr} {v u : V} {t r : Tr} : SqT K H a [.str "add", v, u] → TrV K H v t → TrV K H u r → TrV K H (.ref a) (.add t r)
  | zero {a r : Addr} : SqT K H a [.str "num", .ref r] → RatAt K H r 0 1 → TrV K H (.ref a) .zero
theorem RatAt.keep {K : PySem.W.Frag} {H H' : Hp} {x : Addr} {n d : Int} (h : RatAt K H x n d) (e : Keep H H') : RatAt K H' x n d := by
  obtain ⟨dx, h⟩ := h
  exact ⟨dx, e _ _ h rfl⟩
theorem TrV.keep {K : PySem.W.Frag} {H H' : Hp} (k : Keep H H') {v : V} {t : Tr} (h : TrV K H v t) : TrV K H' v t := by
  induction h with
  | var h => exact .var (SqT.keep h k)
  | neg h _ ih => exact .neg (SqT.keep h k) ih
  | add h _ _ ih1 ih2 => exact .add (SqT.keep h k) ih1 ih2
  | zero h r => exact .zero (SqT.keep h k) (RatAt.keep r k)
def EqnV (K : PySem.W.Frag) (H : Hp) (v : V) (e : Eqn) : Prop := ∃ t x y, v = .ref t ∧ SqT K H t [x, y] ∧ TrV K H x e.1 ∧ TrV K H y e.2
theorem EqnV.keep {K : PySem.W.Frag} {H H' : Hp} {v : V} {e : Eqn} (h : EqnV K H v e) (k : Keep H H') : EqnV K H' v e := by
  obtain ⟨t, x, y, rfl, h, h1, h2⟩ := h
  exact ⟨t, x, y, rfl, SqT.keep h k, h1.keep k, h2.keep k⟩
abbrev KvsV (K : PySem.W.Frag) (H : Hp) (kvs : List (Key × V)) (l : List (Key × Eqn)) : Prop := Paired (fun p q => p.1 = q.1 ∧ EqnV K H p.2 q.2) kvs l
theorem KvsV.keep {K : PySem.W.Frag} {H H' : Hp} {kvs : List (Key × V)} {l : List (Key × Eqn)} (h : KvsV K H kvs l) (k : Keep H H') : KvsV K H' kvs l := Paired.imp (fun _ _ z => ⟨z.1, z.2.keep k⟩) h
theorem KvsV.put {K : PySem.W.Frag} {H : Hp} {kvs : List (Key × V)} {l : List (Key × Eqn)} (h : KvsV K H kvs l) (k : Key) {v : V} {e : Eqn} (r : EqnV K H v e) : KvsV K H (putK kvs k v) (mput l k e) := by
  have ea : (kvs.any fun kv => decide (kv.1 = k)) = l.any fun q => decide (q.1 = k) := by
    clear r
    induction h with
    | nil => rfl
    | cons p t ih => rw [List.any_cons, List.any_cons, ih, p.1]
  unfold putK mput
  rw [ea]
  split
  · rename_i hz
    clear ea hz
    induction h with
    | nil => exact .nil
    | @cons p q ps qs p1 t ih =>
      rw [List.map_cons, List.map_cons]
      refine .cons ?_ ih
      by_cases z : p.1 = k
      · rw [if_pos z, if_pos (p1.1.symm.trans z)]
        exact ⟨p1.1, r⟩
      · rw [if_neg z, if_neg (fun y => z (p1.1.trans y))]
        exact p1
  · exact Paired.app h (.cons ⟨rfl, r⟩ .nil)
/-- the dict at d -/
def DictV (K : PySem.W.Frag) (H : Hp) (d : Addr) (l : List (Key × Eqn)) : Prop := ∃ kvs, H d = some (.dK kvs) ∧ KvsV K H kvs l
/-! ### equality -/
def RatR (K : PySem.W.Frag) (a b : Addr) (H : Hp) : Prop := ∃ n d, RatAt K H a n d ∧ RatAt K H b n d
def DTr (K : PySem.W.Frag) : Nat → Eqv
  | 0 => fun x y H => DFlat x y H ∨ DIns (He.ga K "Ratio") (RatR K) x y H
  | n + 1 => fun x y H => DTr K n x y H ∨ DTup K (DTr K n) x y H
theorem mon_tr (K : PySem.W.Frag) : ∀ n, Mon (DTr K n)
  | 0 => Mon.or mon_flat (mon_ins fun a b H H' e ⟨n, d, h1, h2⟩ => ⟨n, d, h1.mono e, h2.mono e⟩)
  | n + 1 => Mon.or (mon_tr K n) (mon_tup (mon_tr K n))
theorem DTr.up {K : PySem.W.Frag} {x y : V} {H : Hp} {n m : Nat} (h : n ≤ m) (d : DTr K n x y H) : DTr K m x y H := by
  induction h with
  | refl => exact d
  | step _ ih => exact .inl ih
theorem dflat_str {K : PySem.W.Frag} {H : Hp} (n : Nat) (x : Str) : DTr K n (.str x) (.str x) H := DTr.up (Nat.zero_le n) (.inl ⟨rfl, rfl, by simp [eqV]⟩)
theorem dflat_int {K : PySem.W.Frag} {H : Hp} (n : Nat) (i : Int) : DTr K n (.int i) (.int i) H := DTr.up (Nat.zero_le n) (.inl ⟨rfl, rfl, by simp [eqV]⟩)
theorem TrV.eq {K : PySem.W.Frag} {H : Hp} : ∀ (t : Tr) (n : Nat) {x y : V}, TrV K H x t → TrV K H y t → t.deep ≤ n → DTr K n x y H
  | .var z, n, _, _, hx, hy, hn => by
    cases hx with
    | var h1 => cases hy with
      | var h2 =>
        obtain ⟨n, rfl⟩ : ∃ m, n = m + 1 := ⟨n - 1, by unfold Tr.deep at hn; omega⟩
        exact .inr ⟨_, _, _, _, rfl, rfl, h1, h2, Prs.cons (dflat_str n _) (Prs.cons (dflat_str n _) (Prs.cons (dflat_int n _) Prs.nil))⟩
  | .neg t, n, _, _, hx, hy, hn => by
    cases hx with
    | neg h1 k1 => cases hy with
      | neg h2 k2 =>
        obtain ⟨n, rfl⟩ : ∃ m, n = m + 1 := ⟨n - 1, by unfold Tr.deep at hn; omega⟩
        exact .inr ⟨_, _, _, _, rfl, rfl, h1, h2, Prs.cons (dflat_str n _) (Prs.cons (TrV.eq t n k1 k2 (by unfold Tr.deep at hn; omega)) Prs.nil)⟩
  | .add t u, n, _, _, hx, hy, hn => by
    cases hx with
    | add h1 k1 l1 => cases hy with
      | add h2 k2 l2 =>
        obtain ⟨n, rfl⟩ : ∃ m, n = m + 1 := ⟨n - 1, by unfold Tr.deep at hn; omega⟩
        exact .inr ⟨_, _, _, _, rfl, rfl, h1, h2, Prs.cons (dflat_str n _) (Prs.cons (TrV.eq t n k1 k2 (by unfold Tr.deep at hn; omega)) (Prs.cons (TrV.eq u n l1 l2 (by unfold Tr.deep at hn; omega)) Prs.nil))⟩
  | .zero, n, _, _, hx, hy, hn => by
    cases hx with
    | zero h1 r1 => cases hy with
      | zero h2 r2 =>
        obtain ⟨n, rfl⟩ : ∃ m, n = m + 1 := ⟨n - 1, by unfold Tr.deep at hn; omega⟩
        obtain ⟨d1, g1⟩ := id r1
        obtain ⟨d2, g2⟩ := id r2
        exact .inr ⟨_, _, _, _, rfl, rfl, h1, h2, Prs.cons (dflat_str n _) (Prs.cons (DTr.up (Nat.zero_le n) (.inr ⟨_, _, _, _, _, _, rfl, rfl, g1, g2, 0, 1, r1, r2⟩)) Prs.nil)⟩
theorem EqnV.eq {K : PySem.W.Frag} {H : Hp} {e : Eqn} {n : Nat} {x y : V} (hx : EqnV K H x e) (hy : EqnV K H y e) (h1 : e.1.deep ≤ n) (h2 : e.2.deep ≤ n) : DTr K (n + 1) x y H := by
  obtain ⟨t, x1, x2, rfl, hx, a1, a2⟩ := hx
  obtain ⟨u, y1, y2, rfl, hy, b1, b2⟩ := hy
  exact .inr ⟨_, _, _, _, rfl, rfl, hx, hy, Prs.cons (TrV.eq _ n a1 b1 h1) (Prs.cons (TrV.eq _ n a2 b2 h2) Prs.nil)⟩
def Shallow (n : Nat) (l : List (Key × Eqn)) : Prop := ∀ q ∈ l, q.2.1.deep ≤ n ∧ q.2.2.deep ≤ n
theorem KvsV.val {K : PySem.W.Frag} {H : Hp} {kvs : List (Key × V)} {l : List (Key × Eqn)} (h : KvsV K H kvs l) (k : Key) : ∀ e, (l.find? fun q => decide (q.1 = k)).map (·.2) = some e → ∃ v, valV kvs k = some v ∧ EqnV K H v e := by
  induction h with
  | nil => intro e q; cases q
  | @cons p q ps qs p1 t ih =>
    intro e z
    by_cases c : p.1 = k
    · rw [valV_pos c]
      rw [List.find?_cons, decide_eq_true (p1.1.symm.trans c)] at z
      cases z
      exact ⟨_, rfl, p1.2⟩
    · rw [valV_neg c]
      rw [List.find?_cons, decide_eq_false (fun y => c (p1.1.trans y))] at z
      exact ih e z
section
variable {P : Program} {w : World} {K : PySem.W.Frag} {mg : Str → Option Value} {base : Heap}
theorem r_isiRat {H : Hp} {Q : VK} {x : Addr} {n d : Int} (T : Top w K mg) (r : RatAt K H x n d) (h : Q (.bl true) H) : rIsi K [.ref x, .ref (He.ga K "Ratio")] H Q := by
  obtain ⟨dx, r⟩ := r
  exact r_isi (isi_ins T.x_isi_Ratio T.cls_Ratio r) (.own _) (of_decide_eq_true T.x_kit_Ratio_Ratio) h
theorem ok_Ratio___eq__ (T : Top w K mg) : FnOk P w K mg base CX0 1 (He.ma K (He.ga K ("Ratio" : Str)) ("__eq__" : Str)) (fdOf K d_Ratio___eq__) ["self", "other"] (spEq (RatR K)) := by
  refine (T.f_Ratio___eq__).ok sc_Ratio___eq__ (fun vs H Q E h => ?_) (fun cdv A outer s H vs Q E hr h => ?_)
  · obtain ⟨x, y, rfl, _⟩ := h
    rfl
  · obtain ⟨x, y, rfl, ⟨n, d, ⟨dx, hx⟩, ry⟩, k⟩ := h
    obtain ⟨dy, hy⟩ := id ry
    refine ⟨_, PSs.nox (pss_one (ps_ret (pe_and (pe_callB (call_isiK' (K := K) rfl) (by rfl) T.n_isinstance (by decide +kernel) (pa_cons (pv 1) (pa_cons (pe_glob (v := .ref (He.ga K ("Ratio" : Str))) rfl T.g_Ratio rfl) pa_nil))) (pe_and (pe_cmpR op_eq (pe_fldK (K := K) rfl (pv 0) rfl) (pe_fldK (K := K) rfl (pv 1) rfl) (nomark _)) (pe_one (pe_cmpR op_eq (pe_fldK (K := K) rfl (pv 0) rfl) (pe_fldK (K := K) rfl (pv 1) rfl) (nomark _))))))), ?_⟩
    walk_at "go"
    refine r_isiRat T ry ?_
    walk_at "go"
    refine ⟨_, _, _, _, _, rfl, hx, T.cls_Ratio, T.na_Ratio_top, r2_top _ _, ?_⟩
    walk_at "go"
    refine ⟨_, _, _, _, _, rfl, hy, T.cls_Ratio, T.na_Ratio_top, r2_top _ _, ?_⟩
    walk_at "go"
    refine ite_d (fun c => ?_) (fun c => absurd rfl c)
    walk_at "go"
    refine ⟨_, _, _, _, _, rfl, hx, T.cls_Ratio, T.na_Ratio_bottom, r2_bot _ _, ?_⟩
    walk_at "go"
    refine ⟨_, _, _, _, _, rfl, hy, T.cls_Ratio, T.na_Ratio_bottom, r2_bot _ _, ?_⟩
    walk_at "go"
    rw [decide_eq_true rfl]
    exact k H Ext.rfl'
theorem eqTr (T : Top w K mg) {X : Cx} (hp : X.prog = P) (hw : X.w = w) (hk : X.K = K) (hm : X.mg = mg) : ∀ n, EqG X (1 + n) (DTr K n)
  | 0 => by
    subst hp hw hk hm
    exact EqG.or ((eqG_flat (X := X)).mono (Nat.zero_le 1)) (eqG_ins (ok_Ratio___eq__ (base := X.base) T) T.m_Ratio___eq__.at_ T.m_Ratio___eq__.fn T.b_Ratio___eq__ pass0)
  | n + 1 => by
    have ih := eqTr T hp hw hk hm n
    subst hp hw hk hm
    exact EqG.or (ih.mono (Nat.le_succ _)) (eqG_tup (mon_tr _ n) ih)
theorem rcTr (T : Top w K mg) {X : Cx} (n : Nat) (hp : X.prog = P := by rfl) (hw : X.w = w := by rfl) (hk : X.K = K := by rfl) (hm : X.mg = mg := by rfl) : RcG X (1 + n + 1) (DDict (DTr K n)) := rcG_dict (mon_tr K n) (eqTr T hp hw hk hm n)
theorem rnTr (T : Top w K mg) {X : Cx} (n : Nat) (hp : X.prog = P := by rfl) (hw : X.w = w := by rfl) (hk : X.K = K := by rfl) (hm : X.mg = mg := by rfl) : RnG X (1 + n + 1) (DDict (DTr K n)) := rnG_dict (mon_tr K n) (eqTr T hp hw hk hm n)
/-! ### the program's defs -/
def spNm (K : PySem.W.Frag) : Sp := fun vs H Q _ => ∃ (v : V) (e : End) (f : Str), vs = [v, .str f] ∧ EndV K H v e ∧ e.1.length ≤ 100 ∧ f.length ≤ 100 ∧ Q (.str (nmS e f)) H
theorem ok__name (T : Top w K mg) : FnOk P w K mg base CX0 1 (He.ga K ("_name" : Str)) (fdOf K d__name) ["end", "field"] (spNm K) := by
  refine (T.f__name).ok sc__name (fun vs H Q E h => ?_) (fun cdv A outer s H vs Q E hr h => ?_)
  · obtain ⟨v, e, f, rfl, _⟩ := h
    rfl
  · obtain ⟨v, e, f, rfl, ⟨t, rfl, ht⟩, l1, l2, k⟩ := h
    refine ⟨_, PSs.nox (pss_cons (ps_asg (pv 0) (pg_tup (by rfl) (pgs_cons (pg_name (i := 2) sc__name.nd rfl (Or.inl rfl)) (pgs_cons (pg_name (i := 3) sc__name.nd rfl (Or.inl rfl)) pgs_nil))))
    (pss_one (ps_ret (pe_ifExp (pt_val (pv 3)) (pe_joined (.cons pe_str (.cons (pe_fmt (pv 2)) (.cons pe_str (.cons (pe_fmt (pv 1)) (.cons pe_str .nil)))))) (pe_joined (.cons pe_str (.cons (pe_fmt (pv 2)) (.cons pe_str (.cons (pe_fmt (pv 1)) .nil))))))))), ?_⟩
    obtain ⟨x, o⟩ := e
    dsimp only at l1
    have dl1 : (Str.ofString "c.").length = 2 := by decide +kernel
    have dl2 : (Str.ofString ".").length = 1 := by decide +kernel
    have dl3 : (Str.ofString ".o").length = 2 := by decide +kernel
    have big : 1000 ≤ sizeLine := by decide
    walk_at "go"
    refine r_gtup ht rfl ?_
    walk_at "go"
    cases o with
    | true =>
      refine iteT ?_
      walk_at "js"
      rw [sapp_nil]
      exact k
    | false =>
      refine iteF ?_
      walk_at "js"
      rw [sapp_nil]
      exact k
def spVr (K : PySem.W.Frag) : Sp := fun vs H Q _ => ∃ (v : V) (e : End) (f : Str), vs = [v, .str f] ∧ EndV K H v e ∧ e.1.length ≤ 100 ∧ f.length ≤ 100 ∧ ∀ p H', Same H H' → TrV K H' (.ref p) (vrS e f) → Q (.ref p) H'
theorem ok__variable (T : Top w K mg) : FnOk P w K mg base CX0 1 (He.ga K ("_variable" : Str)) (fdOf K d__variable) ["end", "field"] (spVr K) := by
  refine (T.f__variable).ok sc__variable (fun vs H Q E h => ?_) (fun cdv A outer s H vs Q E hr h => ?_)
  · obtain ⟨v, e, f, rfl, _⟩ := h
    rfl
  · obtain ⟨v, e, f, rfl, ⟨t, rfl, ht⟩, l1, l2, k⟩ := h
    refine ⟨_, PSs.nox (pss_one (ps_ret (pe_tup (pa_cons pe_str (pa_cons (pe_joined (.cons (pe_fmt (pe_ix (ix_tupK (K := K) rfl) (pv 0) pe_int (fun _ _ => rfl))) (.cons pe_str (.cons (pe_fmt (pv 1)) .nil)))) (pa_cons pe_int pa_nil)))))), ?_⟩
    obtain ⟨x, o⟩ := e
    dsimp only at l1
    have dl2 : (Str.ofString ".").length = 1 := by decide +kernel
    have big : 1000 ≤ sizeLine := by decide
    walk_at "js"
    refine r_ixT ht rfl ?_
    walk_at "js"
    refine ⟨by show 3 ≤ sizeLine; decide, fun p hp => k p _ (same_new hp) (.var (SqT.of ?_))⟩
    rw [sapp_nil]
    exact upd_same
theorem atI_0 (x : V) (r : List V) : atI (x :: r) 0 = some x := atI_nat (j := 0) rfl
theorem cut1 (x : V) (r : List V) : cutV (x :: r) (some 1) none = r := by
  simp [cutV, HT.sIx]
theorem take_succ_get {α : Type} {l : List α} {i : Nat} {x : α} (h : l[i]? = some x) : l.take (i + 1) = l.take i ++ [x] := by
  rw [List.take_succ, h]
  rfl
/-! ### sums -/
def spSum (K : PySem.W.Frag) : Sp := fun vs H Q _ => ∃ (a : Addr) (xs : List V) (ts : List Tr), vs = [.ref a] ∧ SqL K H a xs ∧ Paired (TrV K H) xs ts ∧ xs.length ≤ 1000 ∧ 0 < xs.length ∧ ∀ v H', Same H H' → TrV K H' v (sumS ts) → Q v H'
theorem ok_sum_of (T : Top w K mg) : FnOk P w K mg base CX0 3 (He.ga K ("sum_of" : Str)) (fdOf K d_sum_of) ["terms"] (spSum K) := by
  obtain ⟨ds0, B0⟩ := T.b0_Ratio___init__
  refine (T.f_sum_of).ok sc_sum_of (fun vs H Q E h => ?_) (fun cdv A outer s H vs Q E hr h => ?_)
  · obtain ⟨a, xs, ts, rfl, _⟩ := h
    rfl
  · obtain ⟨a, xs, ts, rfl, hs, hp, hz, h0, k⟩ := h
    refine ⟨_, PSs.nox (pss_cons (ps_if (pt_not (pt_truth (pv 0) (by intro _; rfl)))
    (pss_one (ps_ret (pe_tup (pa_cons pe_str (pa_cons (pe_make (C := He.ga K ("Ratio" : Str)) T.mk_Ratio (ok_Ratio___init__ (K := K) T) (hr.mono (by decide)) rfl T.g_Ratio (B0.2) (B0.1) passL (pa_cons pe_int pa_nil)) pa_nil)))))
    pss_nil)
    (pss_cons (ps_set (i := 1) sc_sum_of.nd rfl (Or.inl rfl) (pe_ix (ix_listK (K := K) rfl) (pv 0) pe_int (fun _ _ => rfl)))
    (pss_cons (ps_for PassesOwn.never rfl (pi_listK (K := K) rfl (pe_slice sl_list (pv 0) (po_some pe_int) po_none)) (pg_name (i := 2) sc_sum_of.nd rfl (Or.inl rfl))
    (pss_one (ps_set (i := 1) sc_sum_of.nd rfl (Or.inl rfl) (pe_tup (pa_cons pe_str (pa_cons (pv 1) (pa_cons (pv 2) pa_nil)))))))
    (pss_one (ps_ret (pv 1)))))), ?_⟩
    obtain ⟨x0, r, rfl⟩ : ∃ x0 r, xs = x0 :: r := by cases xs with | nil => exact absurd h0 (Nat.lt_irrefl 0) | cons x r => exact ⟨x, r, rfl⟩
    cases hp with
    | @cons _ t0 _ tr p0 pr =>
    walk_at "go"
    refine ⟨true, .inl ⟨_, hs, rfl⟩, ?_⟩
    walk_at "go"
    refine r_ixL hs (atI_0 _ _) ?_
    walk_at "go"
    refine ⟨_, _, rfl, hs, fun p hp => ?_⟩
    rw [cut1]
    have s1 : Same H (upd H p (.lst r)) := same_new hp
    refine ⟨p, rfl, ⟨_, SqL.of upd_same⟩, ?_⟩
    refine for_lst (xs := r) (fun i σ H' => ∃ v o, σ = [some (.ref a), some v, o] ∧ Same (upd H p (.lst r)) H' ∧ TrV K H' v ((tr.take i).foldl .add t0)) ⟨x0, none, rfl, Same.refl _, p0.keep (Same.keep s1)⟩ (fun i σ H' _ ⟨v, o, _, e, _⟩ => SqL.of (e _ _ upd_same)) ?_ ?_
    · rintro i x σ H' hx ⟨v, o, rfl, e, hv⟩
      obtain ⟨t, ht, hxt⟩ := Paired.some pr hx
      walk_at "go"
      refine ⟨by show 3 ≤ sizeLine; decide, fun q hq => ?_⟩
      walk_at "go"
      refine ⟨e.trans (same_new hq), ?_⟩
      rw [take_succ_get ht, List.foldl_append]
      exact .add (SqT.of upd_same) (hv.keep (Same.keep (same_new hq))) (hxt.keep (Same.keep (s1.trans (e.trans (same_new hq)))))
    · rintro σ H' ⟨v, o, rfl, e, hv⟩
      walk_at "go"
      rw [Paired.length pr, List.take_length] at hv
      exact k v H' (s1.trans e) hv
end
theorem foldl_put_len {es : List End} {g : End → Key × Eqn} : ∀ (l : List End) (acc : List (Key × Eqn)), (l.foldl (fun a e => mput a (g e).1 (g e).2) acc).length ≤ acc.length + l.length
  | [], acc => Nat.le_refl _
  | e :: l, acc => by
    have h := foldl_put_len (es := es) (g := g) l (mput acc (g e).1 (g e).2)
    have h2 := mput_len acc (g e).1 (g e).2
    rw [List.foldl_cons, List.length_cons]
    omega
theorem eqsS_len (es : List End) (f : End) (acc : List (Key × Eqn)) (h : es.length ≤ 16) : (eqsS es f acc).length ≤ acc.length + 16 := by
  unfold eqsS
  split
  · have z := foldl_put_len (es := es) (g := fun e => (.inr (nmS e f.1), (vrS (e0S es) f.1, vrS e f.1))) (es.drop 1) acc
    have y := List.length_drop (i := 1) (l := es)
    dsimp only at z
    omega
  · split
    · have z := mput_len acc (.inr (nmS (e0S es) f.1)) (sumS (es.map (termS f.1)), .zero)
      omega
    · omega
theorem setS_len (es : List End) (h : es.length ≤ 16) : ∀ (fs : List End) (acc : List (Key × Eqn)), (fs.foldl (fun a f => eqsS es f a) acc).length ≤ acc.length + 16 * fs.length
  | [], acc => Nat.le_refl _
  | f :: fs, acc => by
    have z := setS_len es h fs (eqsS es f acc)
    have y := eqsS_len es f acc h
    rw [List.foldl_cons, List.length_cons]
    omega
theorem getL {α : Type} {l : List α} {i : Nat} {x : α} (h : l[i]? = some x) : x ∈ l := List.mem_of_getElem? h
theorem r_yes {σ : St} {H : Hp} {F G : Hp → Prop} (h : F H) : tYes σ H (fun b H3 => if b = true then F H3 else G H3) := (show (if true = true then F H else G H) from iteT h)
theorem eqs_no {e0 : End} {er : List End} {fn : Str} {acc : List (Key × Eqn)} (h : ¬ (1 < (e0 :: er).length ∨ e0.2 = false)) : eqsS (e0 :: er) (fn, true) acc = acc := by
  unfold eqsS
  rw [if_neg (show ¬ (true = false) from by decide)]
  exact if_neg h
theorem eqs_yes {e0 : End} {er : List End} {fn : Str} {acc : List (Key × Eqn)} (h : 1 < (e0 :: er).length ∨ e0.2 = false) : eqsS (e0 :: er) (fn, true) acc = mput acc (.inr (nmS e0 fn)) (sumS ((e0 :: er).map (termS fn)), .zero) := by
  unfold eqsS
  rw [if_neg (show ¬ (true = false) from by decide)]
  exact if_pos h
section
variable {P : Program} {w : World} {K : PySem.W.Frag} {mg : Str → Option Value} {base : Heap}
/-- new Ratio(0) -/
theorem zero_same {H : Hp} {z dx : Addr} (nz : H z = none) (ndx : H dx = none) : Same H (upd (upd (upd H dx (.own z)) z (.ins (He.ga K "Ratio") dx [])) z (.ins (He.ga K "Ratio") dx (rfl2 (pn 0 1) (pd 0 1)))) := by
  rw [upd_upd]
  exact same_mk nz ndx
theorem zero_rat {H : Hp} {z dx : Addr} : RatAt K (upd (upd (upd H dx (.own z)) z (.ins (He.ga K "Ratio") dx [])) z (.ins (He.ga K "Ratio") dx (rfl2 (pn 0 1) (pd 0 1)))) z 0 1 := ⟨dx, upd_same⟩
def spSet (K : PySem.W.Frag) : Sp := fun vs H Q _ => ∃ (a b : Addr) (xs ys : List V) (es fs : List End), vs = [.ref a, .ref b] ∧ SqL K H a xs ∧ SqL K H b ys ∧ EndsV K H xs es ∧ EndsV K H ys fs ∧ 0 < es.length ∧ es.length ≤ 16 ∧ fs.length ≤ 16 ∧
  (∀ e ∈ es, e.1.length ≤ 100) ∧ (∀ f ∈ fs, f.1.length ≤ 100) ∧ ∀ d H', Same H H' → H d = none → DictV K H' d (setS es fs) → Q (.ref d) H'
theorem ok_set_equations (T : Top w K mg) : FnOk P w K mg base CX0 4 (He.ga K ("set_equations" : Str)) (fdOf K d_set_equations) ["ends", "fields"] (spSet K) := by
  obtain ⟨ds0, B0⟩ := T.b0_Ratio___init__
  refine (T.f_set_equations).ok sc_set_equations (fun vs H Q E h => ?_) (fun cdv A outer s H vs Q E hr h => ?_)
  · obtain ⟨a, b, xs, ys, es, fs, rfl, _⟩ := h
    rfl
  · obtain ⟨a, b, xs, ys, es, fs, rfl, ha, hb, hes, hys, h0, h16, hf16, le, lf, k⟩ := h
    refine ⟨_, PSs.nox (pss_cons (ps_set (i := 2) sc_set_equations.nd rfl (Or.inl rfl) pe_dnewK)
    (pss_cons (ps_for PassesOwn.never rfl (pi_listK (K := K) rfl (pv 1)) (pg_tup (by rfl) (pgs_cons (pg_name (i := 3) sc_set_equations.nd rfl (Or.inr rfl)) (pgs_cons (pg_name (i := 4) sc_set_equations.nd rfl (Or.inl rfl)) pgs_nil)))
    (pss_one (ps_if (pt_not (pt_val (pv 4)))
    (pss_one (ps_for PassesOwn.never rfl (pi_listK (K := K) rfl (pe_slice sl_list (pv 0) (po_some pe_int) po_none)) (pg_name (i := 5) sc_set_equations.nd rfl (Or.inl rfl))
    (pss_one (ps_dput (hu_of hr) (pv 2) (pe_call (ok__name (K := K) T) (hr.mono (by decide)) rfl T.g__name T.f__name.kp T.b__name .nil pass0 (pa_cons (pv 5) (pa_cons (pv 3) pa_nil))) (pe_tup (pa_cons (pe_call (ok__variable (K := K) T) (hr.mono (by decide)) rfl T.g__variable T.f__variable.kp T.b__variable .nil pass0 (pa_cons (pe_ix (ix_listK (K := K) rfl) (pv 0) pe_int (fun _ _ => rfl)) (pa_cons (pv 3) pa_nil))) (pa_cons (pe_call (ok__variable (K := K) T) (hr.mono (by decide)) rfl T.g__variable T.f__variable.kp T.b__variable .nil pass0 (pa_cons (pv 5) (pa_cons (pv 3) pa_nil))) pa_nil))) rfl))))
    (pss_one (ps_if (PW.pt (pw_or (pt_cmpR op_gt (pe_callB (call_lenK (K := K) rfl) (by rfl) T.n_len PySem.boot_len (pa_cons (pv 0) pa_nil)) pe_int (nomark _)) (pw_or1 (pt_not (pt_val (pe_ix (ix_tupK (K := K) rfl) (pe_ix (ix_listK (K := K) rfl) (pv 0) pe_int (fun _ _ => rfl)) pe_int (fun _ _ => rfl)))))))
    (pss_cons (ps_setLc (i := 6) (own := [(("end" : Str), 5)]) (g := (gName 5)) (tt := tYes) rfl sc_set_equations.nd rfl rfl (by rfl) (pi_listK (K := K) rfl (pv 0)) (blkOk_by (N := ["ends", "fields", "found", "field", "is_flow", "end", "terms"]) (sc := defScope s_set_equations) (by decide +kernel)) (fun _ _ _ _ _ => (pg_name (i := 5) sc_set_equations.nd rfl (Or.inl rfl))) (fun _ _ _ _ _ => pts_nil) (fun _ _ _ _ _ => (pe_ifExp (pt_val (pe_ix (ix_tupK (K := K) rfl) (pv 5) pe_int (fun _ _ => rfl))) (pe_tup (pa_cons pe_str (pa_cons (pe_call (ok__variable (K := K) T) (hr.mono (by decide)) rfl T.g__variable T.f__variable.kp T.b__variable .nil pass0 (pa_cons (pv 5) (pa_cons (pv 3) pa_nil))) pa_nil))) (pe_call (ok__variable (K := K) T) (hr.mono (by decide)) rfl T.g__variable T.f__variable.kp T.b__variable .nil pass0 (pa_cons (pv 5) (pa_cons (pv 3) pa_nil))))))
    (pss_one (ps_dput (hu_of hr) (pv 2) (pe_call (ok__name (K := K) T) (hr.mono (by decide)) rfl T.g__name T.f__name.kp T.b__name .nil pass0 (pa_cons (pe_ix (ix_listK (K := K) rfl) (pv 0) pe_int (fun _ _ => rfl)) (pa_cons (pv 3) pa_nil))) (pe_tup (pa_cons (pe_call (ok_sum_of (K := K) T) (hr.mono (by decide)) rfl T.g_sum_of T.f_sum_of.kp T.b_sum_of .nil pass0 (pa_cons (pv 6) pa_nil)) (pa_cons (pe_tup (pa_cons pe_str (pa_cons (pe_make (C := He.ga K ("Ratio" : Str)) T.mk_Ratio (ok_Ratio___init__ (K := K) T) (hr.mono (by decide)) rfl T.g_Ratio (B0.2) (B0.1) passL (pa_cons pe_int pa_nil)) pa_nil))) pa_nil))) rfl)))
    pss_nil)))))
    (pss_one (ps_ret (pv 2))))), ?_⟩
    obtain ⟨e0, er, rfl⟩ : ∃ e0 er, es = e0 :: er := by cases es with | nil => exact absurd h0 (Nat.lt_irrefl 0) | cons x r => exact ⟨x, r, rfl⟩
    cases hes with
    | @cons x0 _ xr _ p0 pr =>
    walk_at "go"
    intro d hd
    walk_at "go"
    refine ⟨⟨_, SqL.same hb (same_new hd)⟩, ?_⟩
    refine for_lstG (xs := ys) (fun i σ H' => ∃ o3 o4 o5 o6, σ = [some (.ref a), some (.ref b), some (.ref d), o3, o4, o5, o6] ∧ Same H H' ∧ DictV K H' d ((fs.take i).foldl (fun a f => eqsS (e0 :: er) f a) [])) ?_ ?_ ?_ ?_
    · exact ⟨_, _, _, _, rfl, same_new hd, _, upd_same, .nil⟩
    · rintro i σ H' _ ⟨_, _, _, _, _, e, _⟩
      exact SqL.same hb e
    · rintro i x σ H' hx ⟨o3, o4, o5, o6, rfl, e, kvs, hk, hkv⟩
      obtain ⟨f, hf, t, rfl, ht⟩ := Paired.some hys hx
      have hi : i < fs.length := (List.getElem?_eq_some_iff.mp hf).1
      have hL : ((fs.take i).foldl (fun a f => eqsS (e0 :: er) f a) []).length ≤ 256 := by
        have z := setS_len (e0 :: er) h16 (fs.take i) []
        rw [List.length_take] at z
        simp only [List.length_nil] at z
        omega
      rw [take_succ_get hf, List.foldl_append]
      generalize (fs.take i).foldl (fun a f => eqsS (e0 :: er) f a) [] = acc at hkv hL ⊢
      have lf0 := lf f (getL hf)
      have l0 : e0.1.length ≤ 100 := le e0 List.mem_cons_self
      have lk : kvs.length ≤ 256 := by rw [Paired.length hkv]; exact hL
      obtain ⟨fn, fb⟩ := f
      have sk : Keep H H' := Same.keep e
      refine r_gtup (SqT.keep ht sk) rfl ?_
      walk_at "go"
      cases fb with
      | false =>
        refine iteT ?_
        walk_at "go"
        refine ⟨_, _, rfl, SqL.same ha e, fun p hp => ?_⟩
        rw [cut1]
        have s1 : Same H' (upd H' p (.lst xr)) := same_new hp
        have hpd : p ≠ d := fun z => by rw [z, hk] at hp; cases hp
        refine ⟨p, rfl, ⟨_, SqL.of upd_same⟩, ?_⟩
        refine for_lst (xs := xr) (fun j σ H2 => ∃ o5, σ = [some (.ref a), some (.ref b), some (.ref d), some (.str fn), some (.bl false), o5, o6] ∧ Same H H2 ∧ H2 p = some (.lst xr) ∧ DictV K H2 d ((er.take j).foldl (fun a e => mput a (.inr (nmS e fn)) (vrS e0 fn, vrS e fn)) acc)) ?_ ?_ ?_ ?_
        · exact ⟨o5, rfl, e.trans s1, upd_same, kvs, s1 _ _ hk, KvsV.keep hkv (Same.keep s1)⟩
        · rintro j σ H2 _ ⟨_, _, _, z, _⟩
          exact SqL.of z
        · rintro j x σ H2 hx2 ⟨o5, rfl, e2, hp2, kvs2, hk2, hkv2⟩
          obtain ⟨en, hen, hev⟩ := Paired.some pr hx2
          have lj := foldl_put_len (es := []) (g := fun e => (Sum.inr (nmS e fn), (vrS e0 fn, vrS e fn))) (er.take j) acc
          rw [List.length_take] at lj
          dsimp only at lj
          have lr : er.length ≤ 15 := Nat.le_of_succ_le_succ h16
          rw [take_succ_get hen, List.foldl_append]
          generalize (er.take j).foldl (fun a e => mput a (.inr (nmS e fn)) (vrS e0 fn, vrS e fn)) acc = acc2 at hkv2 lj ⊢
          have k2 := Same.keep e2
          walk_at "go"
          refine r_ixL (SqL.same ha e2) (atI_0 _ _) ?_
          walk_at "go"
          refine ⟨_, e0, fn, rfl, p0.keep k2, l0, lf0, fun q H3 e3 hq => ?_⟩
          walk_at "go"
          refine ⟨_, en, fn, rfl, hev.keep (Keep.trans k2 (Same.keep e3)), le en (List.mem_cons_of_mem _ (getL hen)), lf0, fun q2 H4 e4 hq2 => ?_⟩
          walk_at "go"
          refine ⟨by show 2 ≤ sizeLine; decide, fun r hr => ?_⟩
          walk_at "go"
          have e5 := e3.trans (e4.trans (same_new (o := .tup [.ref q, .ref q2]) hr))
          refine ⟨_, en, fn, rfl, hev.keep (Keep.trans k2 (Same.keep e5)), le en (List.mem_cons_of_mem _ (getL hen)), lf0, ?_⟩
          refine ⟨d, _, rfl, DPut.k (k := Sum.inr (nmS en fn)) (e5 _ _ hk2) (by rw [Paired.length hkv2, sizeLine_eq]; omega), ?_⟩
          have kd := keep_upd (o' := .dK (putK kvs2 (.inr (nmS en fn)) (.ref r))) (e5 _ _ hk2) rfl
          refine ⟨_, rfl, same_upd (e2.trans e5) hd, ?_, _, upd_same, ?_⟩
          · rw [upd_ne (show p ≠ d from hpd)]
            exact e5 _ _ hp2
          · exact KvsV.put (KvsV.keep hkv2 (Keep.trans (Same.keep e5) kd)) _ ⟨r, _, _, rfl, SqT.keep (SqT.of upd_same) kd, TrV.keep kd (TrV.keep (Same.keep (e4.trans (same_new hr))) hq), TrV.keep kd (TrV.keep (Same.keep (same_new hr)) hq2)⟩
        · rintro σ H2 ⟨o5, rfl, e2, _, hD⟩
          rw [Paired.length pr, List.take_length] at hD
          exact ⟨_, _, _, _, rfl, e2, hD⟩
      | true =>
        refine iteF ?_
        obtain ⟨t0, rfl, h00⟩ := id p0
        have len0 : (V.ref t0 :: xr).length = (e0 :: er).length := by rw [List.length_cons, List.length_cons, Paired.length pr]
        by_cases hc : 1 < (e0 :: er).length ∨ e0.2 = false
        rotate_left
        · walk_at "go"
          refine ⟨_, _, rfl, .inl (SqL.same ha e), ?_⟩
          walk_at "go"
          rw [len0]
          refine ite_d (fun c => absurd (.inl (by exact_mod_cast c)) hc) (fun c => ?_)
          walk_at "go"
          refine r_ixL (SqL.same ha e) (atI_0 _ _) ?_
          walk_at "go"
          refine r_ixT (SqT.keep h00 sk) rfl ?_
          walk_at "go"
          refine ite_b (fun c2 => absurd (.inr (by simpa using c2)) hc) (fun c2 => ?_)
          walk_at "go"
          refine ⟨_, _, _, _, rfl, e, kvs, hk, ?_⟩
          show KvsV K H' kvs (eqsS (e0 :: er) (fn, true) acc)
          rw [eqs_no hc]
          exact hkv
        · walk_at "go"
          refine ⟨_, _, rfl, .inl (SqL.same ha e), ?_⟩
          walk_at "go"
          rw [len0]
          refine ite_d (fun c => iteT ?_) (fun c => ?_)
          rotate_left
          walk_at "go"
          refine r_ixL (SqL.same ha e) (atI_0 _ _) ?_
          walk_at "go"
          refine r_ixT (SqT.keep h00 sk) rfl ?_
          walk_at "go"
          refine ite_b (fun _ => ?_) (fun c2 => hc.elim (fun z => absurd (by exact_mod_cast z) c) fun z => by rw [z] at c2; cases c2)
          all_goals
            walk_at "go"
            refine ⟨⟨_, SqL.same ha e⟩, ?_⟩
            refine lc_lst (xs := .ref t0 :: xr) (SqL.same ha e) (by rw [len0]; omega) (fun j ys H2 => Paired (TrV K H2) ys (((e0 :: er).take j).map (termS fn))) (fun D hD => .nil) ?_ ?_
            · intro D j x ys H2 hD hx2 hj e2 hD2 hl hp
              obtain ⟨en, hen, u, rfl, hu⟩ := Paired.some (Paired.cons (F := EndV K H) ⟨t0, rfl, h00⟩ pr) hx2
              have k2 : Keep H H2 := Keep.trans sk (Same.keep e2)
              have hterm : ∀ (v : V) (H3 : Hp), Same H2 H3 → TrV K H3 v (termS fn en) → Paired (TrV K (upd H3 D (.lst (ys ++ [v])))) (ys ++ [v]) (((e0 :: er).take (j + 1)).map (termS fn)) := fun v H3 s3 hv => by
                have kk := keep_upd (o' := .lst (ys ++ [v])) (s3 _ _ hD2) rfl
                rw [take_succ_get hen, List.map_append]
                exact Paired.app (Paired.imp (fun _ _ z => TrV.keep kk (TrV.keep (Same.keep s3) z)) hp) (.cons (TrV.keep kk hv) .nil)
              refine ⟨rfl, r_yes ?_⟩
              walk_at "go"
              refine r_ixT (SqT.keep hu k2) rfl ?_
              walk_at "go"
              refine ite_b (fun c3 => ?_) (fun c3 => ?_)
              · walk_at "go"
                refine ⟨_, en, fn, rfl, ⟨u, rfl, SqT.keep hu k2⟩, le en (getL hen), lf0, fun q H3 e3 hq => ?_⟩
                walk_at "go"
                refine ⟨by show 2 ≤ sizeLine; decide, fun r hr => ?_⟩
                refine lc_add hD e2 (e3.trans (same_new hr)) hD2 hl hj (hterm _ _ (e3.trans (same_new hr)) ?_)
                unfold termS
                rw [if_pos c3]
                exact .neg (SqT.of upd_same) (hq.keep (Same.keep (same_new hr)))
              · walk_at "go"
                refine ⟨_, en, fn, rfl, ⟨u, rfl, SqT.keep hu k2⟩, le en (getL hen), lf0, fun q H3 e3 hq => ?_⟩
                refine lc_add hD e2 e3 hD2 hl hj (hterm _ _ e3 ?_)
                unfold termS
                rw [if_neg (by rw [c3]; decide)]
                exact hq
            · intro D ys H2 hD e2 hD2 hp
              rw [len0, List.take_length] at hp
              walk_at "go"
              have kD : Keep H' H2 := Same.keep e2
              refine ⟨D, ys, _, rfl, SqL.of hD2, hp, ?_, ?_, fun v H3 e3 hv => ?_⟩
              · rw [Paired.length hp, List.length_map]; omega
              · rw [Paired.length hp, List.length_map]; exact h0
              walk_at "go"
              intro z dz nz ndz nez
              refine ⟨z, dz, 0, 1, rfl, upd_same, Bits.small (by decide) (by decide), fun h => absurd h (by decide), fun _ => ⟨rfl, ?_⟩⟩
              have e4 := zero_same (K := K) nz ndz
              have hr0 := zero_rat (K := K) (H := H3) (z := z) (dx := dz)
              generalize upd (upd (upd H3 dz (.own z)) z (.ins (He.ga K "Ratio") dz [])) z (.ins (He.ga K "Ratio") dz (rfl2 (pn 0 1) (pd 0 1))) = H4 at e4 hr0 ⊢
              walk_at "go"
              refine ⟨by show 2 ≤ sizeLine; decide, fun q hq => ?_⟩
              walk_at "go"
              refine ⟨by show 2 ≤ sizeLine; decide, fun q2 hq2 => ?_⟩
              walk_at "go"
              have e34 := e3.trans (e4.trans (same_new (o := .tup [.str "num", .ref z]) hq))
              have e5 : Same H' (upd (upd H4 q (.tup [.str "num", .ref z])) q2 (.tup [v, .ref q])) := e2.trans (e34.trans (same_new hq2))
              refine r_ixL (SqL.same ha (e.trans e5)) (atI_0 _ _) ?_
              walk_at "go"
              refine ⟨_, e0, fn, rfl, ⟨t0, rfl, SqT.keep h00 (Same.keep (e.trans e5))⟩, l0, lf0, ?_⟩
              refine ⟨d, _, rfl, DPut.k (k := Sum.inr (nmS e0 fn)) (e5 _ _ hk) (by rw [sizeLine_eq]; omega), ?_⟩
              have kd := keep_upd (o' := .dK (putK kvs (.inr (nmS e0 fn)) (.ref q2))) (e5 _ _ hk) rfl
              refine ⟨_, _, _, _, rfl, same_upd (e.trans e5) hd, ?_⟩
              show DictV K _ d (eqsS (e0 :: er) (fn, true) acc)
              rw [eqs_yes hc]
              have s6 : Same H4 (upd (upd H4 q (.tup [.str "num", .ref z])) q2 (.tup [v, .ref q])) := (same_new hq).trans (same_new hq2)
              exact ⟨_, upd_same, KvsV.put (KvsV.keep hkv (Keep.trans (Same.keep e5) kd)) _ ⟨q2, _, _, rfl, SqT.keep (SqT.of upd_same) kd, TrV.keep kd (TrV.keep (Same.keep (e4.trans s6)) hv), TrV.keep kd (TrV.keep (Same.keep (same_new hq2)) (.zero (SqT.of upd_same) (RatAt.keep hr0 (Same.keep (same_new hq)))))⟩⟩
    · rintro σ H' ⟨o3, o4, o5, o6, rfl, e, hD⟩
      walk_at "go"
      rw [Paired.length hys, List.take_length] at hD
      exact k d H' e hd hD
end
section
variable {P : Program} {w : World} {K : PySem.W.Frag} {mg : Str → Option Value} {base : Heap}
theorem ok__law_named (T : Top w K mg) : FnOk P w K mg base CX0 1 (He.ga K ("_law_named" : Str)) (fdOf K d__law_named) ["end", "field"] (spNm K) := by
  refine (T.f__law_named).ok sc__law_named (fun vs H Q E h => ?_) (fun cdv A outer s H vs Q E hr h => ?_)
  · obtain ⟨v, e, f, rfl, _⟩ := h
    rfl
  · obtain ⟨v, e, f, rfl, ⟨t, rfl, ht⟩, l1, l2, k⟩ := h
    refine ⟨_, PSs.nox (pss_cons (ps_set (i := 2) sc__law_named.nd rfl (Or.inl rfl) (pe_op op_add_str (pe_op op_add_str (pe_op op_add_str pe_str (pe_ix (ix_tupK (K := K) rfl) (pv 0) pe_int (fun _ _ => rfl))) pe_str) (pv 1)))
    (pss_cons (ps_if (pt_val (pe_ix (ix_tupK (K := K) rfl) (pv 0) pe_int (fun _ _ => rfl)))
    (pss_one (ps_ret (pe_op op_add_str (pv 2) pe_str)))
    pss_nil)
    (pss_one (ps_ret (pv 2))))), ?_⟩
    obtain ⟨x, o⟩ := e
    dsimp only at l1
    have dl1 : (Str.ofString "c.").length = 2 := by decide +kernel
    have dl2 : (Str.ofString ".").length = 1 := by decide +kernel
    have dl3 : (Str.ofString ".o").length = 2 := by decide +kernel
    have big : 1000 ≤ sizeLine := by decide
    walk_at "go"
    refine r_ixT ht rfl ?_
    walk_at "js"
    refine r_ixT ht rfl ?_
    walk_at "go"
    cases o with
    | true =>
      refine iteT ?_
      walk_at "js"
      exact k
    | false =>
      refine iteF ?_
      walk_at "go"
      exact k
theorem atI_get {xs : List V} {j : Int} {n : Nat} {v : V} (h : xs[n]? = some v) (e : j = (n : Int)) : atI xs j = some v := by
  rw [e]
  exact atI_nat h
theorem ixN_get {m n : Nat} {j : Int} (h : n < m) (e : j = (n : Int)) : ixN m j = some n := by
  rw [e]
  unfold ixN
  simp [h]
def rowsS (es : List End) (f : Str) (i : Nat) : List Tr := (es.take i).map (termS f) ++ (es.drop i).map (vrS · f)
theorem rowsS_len (es : List End) (f : Str) (i : Nat) : (rowsS es f i).length = es.length := by
  unfold rowsS
  rw [List.length_append, List.length_map, List.length_map, ← List.length_append, List.take_append_drop]
theorem rowsS_0 (es : List End) (f : Str) : rowsS es f 0 = es.map (vrS · f) := rfl
theorem rowsS_all (es : List End) (f : Str) : rowsS es f es.length = es.map (termS f) := by
  unfold rowsS
  rw [List.take_length, List.drop_length, List.map_nil, List.append_nil]
theorem rowsS_at {es : List End} {f : Str} {i : Nat} {e : End} (h : es[i]? = some e) : (rowsS es f i)[i]? = some (vrS e f) := by
  have l := (List.getElem?_eq_some_iff.mp h).1
  unfold rowsS
  rw [List.getElem?_append_right (by rw [List.length_map, List.length_take]; omega), List.length_map, List.length_take, Nat.min_eq_left (Nat.le_of_lt l), Nat.sub_self, List.getElem?_map, List.getElem?_drop, Nat.add_zero, h]
  rfl
theorem rowsS_step {es : List End} {f : Str} {i : Nat} {e : End} (h : es[i]? = some e) : rowsS es f (i + 1) = (rowsS es f i).set i (termS f e) := by
  obtain ⟨l, he⟩ := List.getElem?_eq_some_iff.mp h
  unfold rowsS
  rw [take_succ_get h, List.drop_eq_getElem_cons l, he, List.map_append, List.map_cons, List.map_cons, List.map_nil, List.append_assoc]
  rw [List.set_append_right _ _ (by rw [List.length_map, List.length_take]; omega), List.length_map, List.length_take, Nat.min_eq_left (Nat.le_of_lt l), Nat.sub_self]
  rfl
theorem rowsS_same {es : List End} {f : Str} {i : Nat} {e : End} (h : es[i]? = some e) (he : e.2 = false) : rowsS es f (i + 1) = rowsS es f i := by
  have z := rowsS_at (f := f) h
  rw [rowsS_step h]
  have y : termS f e = vrS e f := by
    unfold termS
    rw [if_neg (by rw [he]; decide)]
  rw [y]
  obtain ⟨hz, e2⟩ := List.getElem?_eq_some_iff.mp z
  rw [← e2]
  exact List.set_getElem_self hz
theorem ok__law_due (T : Top w K mg) : FnOk P w K mg base CX0 4 (He.ga K ("_law_due" : Str)) (fdOf K d__law_due) ["ends", "fields"] (spSet K) := by
  obtain ⟨ds0, B0⟩ := T.b0_Ratio___init__
  refine (T.f__law_due).ok sc__law_due (fun vs H Q E h => ?_) (fun cdv A outer s H vs Q E hr h => ?_)
  · obtain ⟨a, b, xs, ys, es, fs, rfl, _⟩ := h
    rfl
  · obtain ⟨a, b, xs, ys, es, fs, rfl, ha, hb, hes, hys, h0, h16, hf16, le, lf, k⟩ := h
    refine ⟨_, PSs.nox (pss_cons (ps_set (i := 2) sc__law_due.nd rfl (Or.inl rfl) pe_dnewK)
    (pss_cons (ps_for PassesOwn.never rfl (pi_listK (K := K) rfl (pv 1)) (pg_name (i := 3) sc__law_due.nd rfl (Or.inr rfl))
    (pss_cons (ps_setLc (i := 4) (own := [(("end" : Str), 5)]) (g := (gName 5)) (tt := tYes) rfl sc__law_due.nd rfl rfl (by rfl) (pi_listK (K := K) rfl (pv 0)) (blkOk_by (N := ["ends", "fields", "found", "field", "rows", "end", "k", "left", "row"]) (sc := defScope s__law_due) (by decide +kernel)) (fun _ _ _ _ _ => (pg_name (i := 5) sc__law_due.nd rfl (Or.inl rfl))) (fun _ _ _ _ _ => pts_nil) (fun _ _ _ _ _ => (pe_tup (pa_cons pe_str (pa_cons (pe_op op_add_str (pe_op op_add_str (pe_ix (ix_tupK (K := K) rfl) (pv 5) pe_int (fun _ _ => rfl)) pe_str) (pe_ix (ix_tupK (K := K) rfl) (pv 3) pe_int (fun _ _ => rfl))) (pa_cons pe_int pa_nil))))))
    (pss_one (ps_if (pt_not (pt_val (pe_ix (ix_tupK (K := K) rfl) (pv 3) pe_int (fun _ _ => rfl))))
    (pss_one (ps_for PassesOwn.never rfl (pi_range2 rfl T.n_range (pa_cons pe_int (pa_cons (pe_callB (call_lenK (K := K) rfl) (by rfl) T.n_len PySem.boot_len (pa_cons (pv 0) pa_nil)) pa_nil))) (pg_name (i := 6) sc__law_due.nd rfl (Or.inl rfl))
    (pss_one (ps_dput (hu_of hr) (pv 2) (pe_call (ok__law_named (K := K) T) (hr.mono (by decide)) rfl T.g__law_named T.f__law_named.kp T.b__law_named .nil pass0 (pa_cons (pe_ix (ix_listK (K := K) rfl) (pv 0) (pv 6) (fun _ _ => rfl)) (pa_cons (pe_ix (ix_tupK (K := K) rfl) (pv 3) pe_int (fun _ _ => rfl)) pa_nil))) (pe_tup (pa_cons (pe_ix (ix_listK (K := K) rfl) (pv 4) pe_int (fun _ _ => rfl)) (pa_cons (pe_ix (ix_listK (K := K) rfl) (pv 4) (pv 6) (fun _ _ => rfl)) pa_nil))) rfl))))
    (pss_one (ps_if (PW.pt (pw_or (pt_cmpR op_gt (pe_callB (call_lenK (K := K) rfl) (by rfl) T.n_len PySem.boot_len (pa_cons (pv 0) pa_nil)) pe_int (nomark _)) (pw_or1 (pt_not (pt_val (pe_ix (ix_tupK (K := K) rfl) (pe_ix (ix_listK (K := K) rfl) (pv 0) pe_int (fun _ _ => rfl)) pe_int (fun _ _ => rfl)))))))
    (pss_cons (ps_for PassesOwn.never rfl (pi_range1 rfl T.n_range (pa_cons (pe_callB (call_lenK (K := K) rfl) (by rfl) T.n_len PySem.boot_len (pa_cons (pv 0) pa_nil)) pa_nil)) (pg_name (i := 6) sc__law_due.nd rfl (Or.inl rfl))
    (pss_one (ps_if (pt_val (pe_ix (ix_tupK (K := K) rfl) (pe_ix (ix_listK (K := K) rfl) (pv 0) (pv 6) (fun _ _ => rfl)) pe_int (fun _ _ => rfl)))
    (pss_one (ps_asg (pe_tup (pa_cons pe_str (pa_cons (pe_ix (ix_listK (K := K) rfl) (pv 4) (pv 6) (fun _ _ => rfl)) pa_nil))) (pg_sub (pv 4) (pv 6) set_list)))
    pss_nil)))
    (pss_cons (ps_set (i := 7) sc__law_due.nd rfl (Or.inl rfl) (pe_ix (ix_listK (K := K) rfl) (pv 4) pe_int (fun _ _ => rfl)))
    (pss_cons (ps_for PassesOwn.never rfl (pi_listK (K := K) rfl (pe_slice sl_list (pv 4) (po_some pe_int) po_none)) (pg_name (i := 8) sc__law_due.nd rfl (Or.inl rfl))
    (pss_one (ps_set (i := 7) sc__law_due.nd rfl (Or.inl rfl) (pe_tup (pa_cons pe_str (pa_cons (pv 7) (pa_cons (pv 8) pa_nil)))))))
    (pss_one (ps_dput (hu_of hr) (pv 2) (pe_call (ok__law_named (K := K) T) (hr.mono (by decide)) rfl T.g__law_named T.f__law_named.kp T.b__law_named .nil pass0 (pa_cons (pe_ix (ix_listK (K := K) rfl) (pv 0) pe_int (fun _ _ => rfl)) (pa_cons (pe_ix (ix_tupK (K := K) rfl) (pv 3) pe_int (fun _ _ => rfl)) pa_nil))) (pe_tup (pa_cons (pv 7) (pa_cons (pe_tup (pa_cons pe_str (pa_cons (pe_make (C := He.ga K ("Ratio" : Str)) T.mk_Ratio (ok_Ratio___init__ (K := K) T) (hr.mono (by decide)) rfl T.g_Ratio (B0.2) (B0.1) passL (pa_cons pe_int pa_nil)) pa_nil))) pa_nil))) rfl)))))
    pss_nil))))))
    (pss_one (ps_ret (pv 2))))), ?_⟩
    obtain ⟨e0, er, rfl⟩ : ∃ e0 er, es = e0 :: er := by cases es with | nil => exact absurd h0 (Nat.lt_irrefl 0) | cons x r => exact ⟨x, r, rfl⟩
    have lxs : xs.length = (e0 :: er).length := Paired.length hes
    walk_at "go"
    intro d hd
    walk_at "go"
    refine ⟨⟨_, SqL.same hb (same_new hd)⟩, ?_⟩
    refine for_lst (xs := ys) (fun i σ H' => ∃ o3 o4 o5 o6 o7 o8, σ = [some (.ref a), some (.ref b), some (.ref d), o3, o4, o5, o6, o7, o8] ∧ Same H H' ∧ DictV K H' d ((fs.take i).foldl (fun a f => eqsS (e0 :: er) f a) [])) ?_ ?_ ?_ ?_
    · exact ⟨_, _, _, _, _, _, rfl, same_new hd, _, upd_same, .nil⟩
    · rintro i σ H' _ ⟨_, _, _, _, _, _, _, e, _⟩
      exact SqL.same hb e
    · rintro i x σ H' hx ⟨o3, o4, o5, o6, o7, o8, rfl, e, kvs, hk, hkv⟩
      obtain ⟨f, hf, t, rfl, ht⟩ := Paired.some hys hx
      have hi : i < fs.length := (List.getElem?_eq_some_iff.mp hf).1
      have hL : ((fs.take i).foldl (fun a f => eqsS (e0 :: er) f a) []).length ≤ 256 := by
        have z := setS_len (e0 :: er) h16 (fs.take i) []
        rw [List.length_take] at z
        simp only [List.length_nil] at z
        omega
      rw [take_succ_get hf, List.foldl_append]
      generalize (fs.take i).foldl (fun a f => eqsS (e0 :: er) f a) [] = acc at hkv hL ⊢
      have lf0 := lf f (getL hf)
      have lk : kvs.length ≤ 256 := by rw [Paired.length hkv]; exact hL
      obtain ⟨fn, fb⟩ := f
      have sk : Keep H H' := Same.keep e
      have ht' := SqT.keep ht sk
      walk_at "go"
      refine ⟨⟨_, SqL.same ha e⟩, ?_⟩
      have dl2 : (Str.ofString ".").length = 1 := by decide +kernel
      have big : 1000 ≤ sizeLine := by decide
      refine lc_lst (xs := xs) (SqL.same ha e) (by rw [lxs]; omega) (fun j ys H2 => Paired (TrV K H2) ys (((e0 :: er).take j).map (vrS · fn))) (fun D hD => .nil) ?_ ?_
      · intro D j x ys H2 hD hx2 hj e2 hD2 hl hp
        obtain ⟨⟨en, eb⟩, hen, u, rfl, hu⟩ := Paired.some hes hx2
        have k2 : Keep H H2 := Keep.trans sk (Same.keep e2)
        have len := le _ (getL hen)
        dsimp only at len lf0
        refine ⟨rfl, r_yes ?_⟩
        walk_at "go"
        refine r_ixT (SqT.keep hu k2) rfl ?_
        walk_at "js"
        refine r_ixT (SqT.keep ht k2) rfl ?_
        walk_at "js"
        refine ⟨by show 3 ≤ sizeLine; decide, fun r hr => ?_⟩
        have s3 := same_new (o := .tup [.str "var", .str (en ++ Str.ofString "." ++ fn), .int 0]) hr
        refine lc_add hD e2 s3 hD2 hl hj ?_
        have kk := keep_upd (o' := .lst (ys ++ [.ref r])) (s3 _ _ hD2) rfl
        rw [take_succ_get hen, List.map_append]
        exact Paired.app (Paired.imp (fun _ _ z => TrV.keep kk (TrV.keep (Same.keep s3) z)) hp) (.cons (.var (SqT.keep (SqT.of upd_same) kk)) .nil)
      · intro D rs H2 hD e2 hD2 hp
        rw [lxs, List.take_length] at hp
        have kD : D ≠ d := fun z => by rw [z, hk] at hD; cases hD
        have e02 := e.trans e2
        have k02 := Same.keep e02
        have lrs : rs.length = (e0 :: er).length := by rw [Paired.length hp, List.length_map]
        walk_at "go"
        refine r_ixT (SqT.keep ht k02) rfl ?_
        walk_at "go"
        cases fb with
        | false =>
          refine iteT ?_
          walk_at "go"
          refine ⟨_, _, rfl, .inl (SqL.same ha e02), ?_⟩
          walk_at "go"
          have ln : ((xs.length : Int) - 1).toNat = er.length := by rw [lxs, List.length_cons]; omega
          rw [ln]
          obtain ⟨r0, rr, rfl⟩ : ∃ r0 rr, rs = r0 :: rr := by cases rs with | nil => cases lrs | cons x r => exact ⟨x, r, rfl⟩
          cases hp with
          | cons p0 pr =>
          refine for_rng (lo := 1) (n := er.length) (fun j σ H3 => ∃ o5 o6 o7 o8, σ = [some (.ref a), some (.ref b), some (.ref d), some (.ref t), some (.ref D), o5, o6, o7, o8] ∧ Same H H3 ∧ Keep H2 H3 ∧ H3 D = some (.lst (r0 :: rr)) ∧ DictV K H3 d ((er.take j).foldl (fun a e => mput a (.inr (nmS e fn)) (vrS e0 fn, vrS e fn)) acc)) ?_ ?_ ?_
          · exact ⟨_, _, _, _, rfl, e02, Keep.refl _, hD2, kvs, e2 _ _ hk, KvsV.keep hkv (Same.keep e2)⟩
          · rintro j σ H3 hj ⟨o5, o6, o7, o8, rfl, e3, k3, hD3, kvs3, hk3, hkv3⟩
            obtain ⟨en, hen⟩ : ∃ en, er[j]? = some en := ⟨_, List.getElem?_eq_getElem hj⟩
            have hen1 : (e0 :: er)[j + 1]? = some en := by rw [List.getElem?_cons_succ]; exact hen
            obtain ⟨xe, hxe⟩ : ∃ xe, xs[j + 1]? = some xe := ⟨_, List.getElem?_eq_getElem (by rw [lxs, List.length_cons]; omega)⟩
            obtain ⟨re, hre⟩ : ∃ re, (r0 :: rr)[j + 1]? = some re := ⟨_, List.getElem?_eq_getElem (by rw [lrs, List.length_cons]; omega)⟩
            have hev := Paired.at_ hes hxe hen1
            have hrv : TrV K H2 re (vrS en fn) := Paired.at_ (Paired.cons p0 pr) hre (by rw [List.getElem?_cons_succ, List.getElem?_map, hen]; rfl)
            have lj := foldl_put_len (es := []) (g := fun e => (Sum.inr (nmS e fn), (vrS e0 fn, vrS e fn))) (er.take j) acc
            rw [List.length_take] at lj
            dsimp only at lj
            have lr : er.length ≤ 15 := Nat.le_of_succ_le_succ h16
            rw [take_succ_get hen, List.foldl_append]
            generalize (er.take j).foldl (fun a e => mput a (.inr (nmS e fn)) (vrS e0 fn, vrS e fn)) acc = acc2 at hkv3 lj ⊢
            have k03 := Same.keep e3
            have ej : (1 : Int) + (j : Int) = ((j + 1 : Nat) : Int) := by omega
            walk_at "go"
            refine r_ixL (SqL.of hD3) (atI_0 _ _) ?_
            walk_at "go"
            refine r_ixL (SqL.of hD3) (atI_get hre ej) ?_
            walk_at "go"
            refine ⟨by show 2 ≤ sizeLine; decide, fun q hq => ?_⟩
            have s4 := same_new (o := .tup [r0, re]) hq
            walk_at "go"
            refine r_ixL (SqL.same ha (e3.trans s4)) (atI_get hxe ej) ?_
            walk_at "go"
            refine r_ixT (SqT.keep ht (Same.keep (e3.trans s4))) rfl ?_
            walk_at "go"
            refine ⟨_, en, fn, rfl, hev.keep (Same.keep (e3.trans s4)), le en (getL hen1), lf0, ?_⟩
            refine ⟨d, _, rfl, DPut.k (k := Sum.inr (nmS en fn)) (s4 _ _ hk3) (by rw [Paired.length hkv3, sizeLine_eq]; omega), ?_⟩
            have kd := keep_upd (o' := .dK (putK kvs3 (.inr (nmS en fn)) (.ref q))) (s4 _ _ hk3) rfl
            have kf : Keep H2 _ := Keep.trans k3 (Keep.trans (Same.keep s4) kd)
            refine ⟨_, _, _, _, rfl, same_upd (e3.trans s4) hd, kf, ?_, _, upd_same, ?_⟩
            · rw [upd_ne kD]
              exact s4 _ _ hD3
            · exact KvsV.put (KvsV.keep hkv3 (Keep.trans (Same.keep s4) kd)) _ ⟨q, _, _, rfl, SqT.keep (SqT.of upd_same) kd, TrV.keep kf p0, TrV.keep kf hrv⟩
          · rintro σ H3 ⟨o5, o6, o7, o8, rfl, e3, k3, _, hD⟩
            rw [List.take_length] at hD
            exact ⟨_, _, _, _, _, _, rfl, e3, hD⟩
        | true =>
          refine iteF ?_
          have xh : ∃ x0 xr, xs = x0 :: xr := by cases xs with | nil => cases lxs | cons x r => exact ⟨x, r, rfl⟩
          obtain ⟨x0, xr, rfl⟩ := xh
          have h00 := Paired.at_ (i := 0) hes rfl rfl
          obtain ⟨t0, rfl, h00⟩ := h00
          by_cases hc : 1 < (e0 :: er).length ∨ e0.2 = false
          rotate_left
          · walk_at "go"
            refine ⟨_, _, rfl, .inl (SqL.same ha e02), ?_⟩
            walk_at "go"
            rw [lxs]
            refine ite_d (fun c => absurd (.inl (by exact_mod_cast c)) hc) (fun c => ?_)
            walk_at "go"
            refine r_ixL (SqL.same ha e02) (atI_0 _ _) ?_
            walk_at "go"
            refine r_ixT (SqT.keep h00 k02) rfl ?_
            walk_at "go"
            refine ite_b (fun c2 => absurd (.inr (by simpa using c2)) hc) (fun c2 => ?_)
            walk_at "go"
            refine ⟨_, _, _, _, _, _, rfl, e02, kvs, e2 _ _ hk, ?_⟩
            show KvsV K H2 kvs (eqsS (e0 :: er) (fn, true) acc)
            rw [eqs_no hc]
            exact KvsV.keep hkv (Same.keep e2)
          · walk_at "go"
            refine ⟨_, _, rfl, .inl (SqL.same ha e02), ?_⟩
            walk_at "go"
            rw [lxs]
            refine ite_d (fun c => iteT ?_) (fun c => ?_)
            rotate_left
            walk_at "go"
            refine r_ixL (SqL.same ha e02) (atI_0 _ _) ?_
            walk_at "go"
            refine r_ixT (SqT.keep h00 k02) rfl ?_
            walk_at "go"
            refine ite_b (fun _ => ?_) (fun c2 => hc.elim (fun z => absurd (by exact_mod_cast z) c) fun z => by rw [z] at c2; cases c2)
            all_goals
              walk_at "go"
              refine ⟨_, _, rfl, .inl (SqL.same ha e02), ?_⟩
              rw [lxs]
              apply r_nilA
              refine ⟨_, rfl, by omega, by have := h16; omega, ?_⟩
              rw [Int.toNat_natCast]
              refine for_rng (lo := 0) (n := (e0 :: er).length) (fun j σ H3 => ∃ o5 o6, σ = [some (.ref a), some (.ref b), some (.ref d), some (.ref t), some (.ref D), o5, o6, o7, o8] ∧ Same H H3 ∧ Keep H2 H3 ∧ H3 d = some (.dK kvs) ∧ ∃ rs, H3 D = some (.lst rs) ∧ Paired (TrV K H3) rs (rowsS (e0 :: er) fn j)) ?_ ?_ ?_
              · exact ⟨_, _, rfl, e02, Keep.refl _, e2 _ _ hk, rs, hD2, by rw [rowsS_0]; exact hp⟩
              · rintro j σ H3 hj ⟨o5, o6, rfl, e3, k3, hk3, rs3, hD3, hp3⟩
                obtain ⟨en, hen⟩ : ∃ en, (e0 :: er)[j]? = some en := ⟨_, List.getElem?_eq_getElem hj⟩
                obtain ⟨xe, hxe⟩ : ∃ xe, (V.ref t0 :: xr)[j]? = some xe := ⟨_, List.getElem?_eq_getElem (by rw [lxs]; exact hj)⟩
                have l3 : rs3.length = (e0 :: er).length := by rw [Paired.length hp3, rowsS_len]
                obtain ⟨re, hre⟩ : ∃ re, rs3[j]? = some re := ⟨_, List.getElem?_eq_getElem (by rw [l3]; exact hj)⟩
                obtain ⟨u, rfl, hu⟩ := Paired.at_ hes hxe hen
                have hrv := Paired.at_ hp3 hre (rowsS_at hen)
                have ej : (0 : Int) + (j : Int) = (j : Int) := by omega
                walk_at "go"
                refine r_ixL (SqL.same ha e3) (atI_get hxe ej) ?_
                walk_at "go"
                refine r_ixT (SqT.keep hu (Same.keep e3)) rfl ?_
                walk_at "go"
                refine ite_b (fun c3 => ?_) (fun c3 => ?_)
                · walk_at "go"
                  refine r_ixL (SqL.of hD3) (atI_get hre ej) ?_
                  walk_at "go"
                  refine ⟨by show 2 ≤ sizeLine; decide, fun q hq => ?_⟩
                  have s4 := same_new (o := .tup [.str "neg", re]) hq
                  walk_at "go"
                  refine ⟨D, rs3, _, j, rfl, rfl, s4 _ _ hD3, ixN_get (by rw [l3]; exact hj) ej, ?_⟩
                  have kd := keep_upd (o' := .lst (rs3.set j (.ref q))) (s4 _ _ hD3) rfl
                  have hDn : H D = none := (Same.free e) hD
                  refine ⟨_, _, rfl, same_upd (e3.trans s4) hDn, Keep.trans k3 (Keep.trans (Same.keep s4) kd), ?_, _, upd_same, ?_⟩
                  · rw [upd_ne (Ne.symm kD)]
                    exact s4 _ _ hk3
                  · rw [rowsS_step hen]
                    refine Paired.set ?_ j (Paired.imp (fun _ _ z => TrV.keep kd (TrV.keep (Same.keep s4) z)) hp3)
                    unfold termS
                    rw [if_pos c3]
                    exact .neg (SqT.keep (SqT.of upd_same) kd) (TrV.keep kd (TrV.keep (Same.keep s4) hrv))
                · walk_at "go"
                  refine ⟨rs3, hD3, ?_⟩
                  rw [rowsS_same hen c3]
                  exact hp3
              · rintro σ H3 ⟨o5, o6, rfl, e3, k3, hk3, rs3, hD3, hp3⟩
                rw [rowsS_all] at hp3
                obtain ⟨r0, rr, rfl⟩ : ∃ r0 rr, rs3 = r0 :: rr := by cases rs3 with | nil => cases hp3 | cons x r => exact ⟨x, r, rfl⟩
                cases hp3 with
                | cons p0 pr =>
                walk_at "go"
                refine r_ixL (SqL.of hD3) (atI_0 _ _) ?_
                walk_at "go"
                refine ⟨_, _, rfl, SqL.of hD3, fun p hp => ?_⟩
                rw [cut1]
                have s4 := same_new (o := .lst rr) hp
                refine ⟨p, rfl, ⟨_, SqL.of upd_same⟩, ?_⟩
                refine for_lst (xs := rr) (fun j σ H4 => ∃ v o8, σ = [some (.ref a), some (.ref b), some (.ref d), some (.ref t), some (.ref D), o5, o6, some v, o8] ∧ Same (upd H3 p (.lst rr)) H4 ∧ TrV K H4 v (((er.map (termS fn)).take j).foldl .add (termS fn e0))) ⟨_, _, rfl, Same.refl _, p0.keep (Same.keep s4)⟩ (fun j σ H4 _ ⟨_, _, _, z, _⟩ => SqL.of (z _ _ upd_same)) ?_ ?_
                · rintro j x σ H4 hx4 ⟨v, o8, rfl, e4, hv⟩
                  obtain ⟨tr, htr, hxt⟩ := Paired.some pr hx4
                  walk_at "go"
                  refine ⟨by show 3 ≤ sizeLine; decide, fun q hq => ?_⟩
                  walk_at "go"
                  refine ⟨e4.trans (same_new hq), ?_⟩
                  rw [take_succ_get htr, List.foldl_append]
                  exact .add (SqT.of upd_same) (hv.keep (Same.keep (same_new hq))) (hxt.keep (Same.keep (s4.trans (e4.trans (same_new hq)))))
                · rintro σ H4 ⟨v, o8, rfl, e4, hv⟩
                  rw [Paired.length pr, List.take_length] at hv
                  have e34 := s4.trans e4
                  walk_at "go"
                  intro z dz nz ndz nez
                  refine ⟨z, dz, 0, 1, rfl, upd_same, Bits.small (by decide) (by decide), fun h => absurd h (by decide), fun _ => ⟨rfl, ?_⟩⟩
                  have e5 := zero_same (K := K) nz ndz
                  have hr0 := zero_rat (K := K) (H := H4) (z := z) (dx := dz)
                  generalize upd (upd (upd H4 dz (.own z)) z (.ins (He.ga K "Ratio") dz [])) z (.ins (He.ga K "Ratio") dz (rfl2 (pn 0 1) (pd 0 1))) = H5 at e5 hr0 ⊢
                  walk_at "go"
                  refine ⟨by show 2 ≤ sizeLine; decide, fun q hq => ?_⟩
                  walk_at "go"
                  refine ⟨by show 2 ≤ sizeLine; decide, fun q2 hq2 => ?_⟩
                  walk_at "go"
                  have e6 : Same H3 (upd (upd H5 q (.tup [.str "num", .ref z])) q2 (.tup [v, .ref q])) := e34.trans (e5.trans ((same_new hq).trans (same_new hq2)))
                  have e7 := e3.trans e6
                  refine r_ixL (SqL.same ha e7) (atI_0 _ _) ?_
                  walk_at "go"
                  refine r_ixT (SqT.keep ht (Same.keep e7)) rfl ?_
                  walk_at "go"
                  refine ⟨_, e0, fn, rfl, ⟨t0, rfl, SqT.keep h00 (Same.keep e7)⟩, le e0 List.mem_cons_self, lf0, ?_⟩
                  refine ⟨d, _, rfl, DPut.k (k := Sum.inr (nmS e0 fn)) (e6 _ _ hk3) (by rw [sizeLine_eq]; omega), ?_⟩
                  have kd := keep_upd (o' := .dK (putK kvs (.inr (nmS e0 fn)) (.ref q2))) (e6 _ _ hk3) rfl
                  refine ⟨_, _, _, _, _, _, rfl, same_upd e7 hd, ?_⟩
                  show DictV K _ d (eqsS (e0 :: er) (fn, true) acc)
                  rw [eqs_yes hc]
                  have s6 : Same H5 (upd (upd H5 q (.tup [.str "num", .ref z])) q2 (.tup [v, .ref q])) := (same_new hq).trans (same_new hq2)
                  exact ⟨_, upd_same, KvsV.put (KvsV.keep hkv (Keep.trans (Same.keep e2) (Keep.trans k3 (Keep.trans (Same.keep e6) kd)))) _ ⟨q2, _, _, rfl, SqT.keep (SqT.of upd_same) kd, TrV.keep kd (TrV.keep (Same.keep (e5.trans s6)) hv), TrV.keep kd (TrV.keep (Same.keep (same_new hq2)) (.zero (SqT.of upd_same) (RatAt.keep hr0 (Same.keep (same_new hq)))))⟩⟩
    · rintro σ H' ⟨o3, o4, o5, o6, o7, o8, rfl, e, hD⟩
      walk_at "go"
      rw [Paired.length hys, List.take_length] at hD
      exact k d H' e hd hD
end
def namesL : List Str := ["a", "a.b", "a.c", "b[1]", "b[2].c", "b[10]", "q", "z.y.x"]
theorem namesL_short : ∀ x ∈ namesL, x.length ≤ 100 := by decide +kernel
def Short (es : List End) : Prop := ∀ e ∈ es, e.1.length ≤ 100
section
variable {P : Program} {w : World} {K : PySem.W.Frag} {mg : Str → Option Value} {base : Heap}
def spEnds (K : PySem.W.Frag) : Sp := fun vs H Q _ => ∃ s : Addr, vs = [.ref s] ∧ Strm H s ∧ ∀ a xs es H', Same H H' → H' a = some (.lst xs) → EndsV K H' xs es → es.length ≤ 16 → Short es → Q (.ref a) H'
theorem ok__law_ends (T : Top w K mg) : FnOk P w K mg base CX0 2 (He.ga K ("_law_ends" : Str)) (fdOf K d__law_ends) ["stream"] (spEnds K) := by
  refine (T.f__law_ends).ok sc__law_ends (fun vs H Q E h => ?_) (fun cdv A outer s H vs Q E hr h => ?_)
  · obtain ⟨s, rfl, _⟩ := h
    rfl
  · obtain ⟨s0, rfl, hS, k⟩ := h
    refine ⟨_, PSs.nox (pss_cons (ps_set (i := 1) sc__law_ends.nd rfl (Or.inl rfl) (pe_lst (pa_cons pe_str (pa_cons pe_str (pa_cons pe_str (pa_cons pe_str (pa_cons pe_str (pa_cons pe_str (pa_cons pe_str (pa_cons pe_str pa_nil))))))))))
    (pss_cons (ps_set (i := 2) sc__law_ends.nd rfl (Or.inl rfl) (pe_lst pa_nil))
    (pss_cons (ps_for PassesOwn.never rfl (pi_listK (K := K) rfl (pv 1)) (pg_name (i := 3) sc__law_ends.nd rfl (Or.inl rfl))
    (pss_one (ps_for PassesOwn.never rfl (pi_tupK (K := K) rfl (pe_tup (pa_cons pe_bl (pa_cons pe_bl pa_nil)))) (pg_name (i := 4) sc__law_ends.nd rfl (Or.inl rfl))
    (pss_one (ps_if (pt_cmpR op_eq (pe_call (ok__law_draw (K := K) T) (hr.mono (by decide)) rfl T.g__law_draw T.f__law_draw.kp T.b__law_draw .nil pass0 (pa_cons (pv 0) (pa_cons pe_int pa_nil))) pe_int (nomark _))
    (pss_one (ps_expr (pe_bm PySem.F.plainAttrs_list PySem.F.slot_list_append PySem.F.type_list_append mt_append (pv 2) (pa_cons (pe_tup (pa_cons (pv 3) (pa_cons (pv 4) pa_nil))) pa_nil))))
    pss_nil)))))
    (pss_one (ps_ret (pv 2)))))), ?_⟩
    walk_at "go"
    intro nl hnl
    have s1 := same_new (o := .lst (namesL.map V.str)) hnl
    walk_at "go"
    intro fl hfl
    have s2 := s1.trans (same_new (o := .lst []) hfl)
    have nfl : nl ≠ fl := ne_of_none upd_same hfl
    have hfH : H fl = none := Same.free s1 hfl
    walk_at "go"
    have hn2 : upd (upd H nl (.lst (namesL.map V.str))) fl (.lst []) nl = some (.lst (namesL.map V.str)) := by rw [upd_ne nfl]; exact upd_same
    refine ⟨⟨_, SqL.of hn2⟩, ?_⟩
    refine for_lst (xs := namesL.map V.str) (fun i σ H' => ∃ o3 o4, σ = [some (.ref s0), some (.ref nl), some (.ref fl), o3, o4] ∧ Same H H' ∧ H' nl = some (.lst (namesL.map V.str)) ∧ ∃ xs es, H' fl = some (.lst xs) ∧ EndsV K H' xs es ∧ es.length ≤ 2 * i ∧ Short es) ?_ ?_ ?_ ?_
    · exact ⟨_, _, rfl, s2, hn2, [], [], upd_same, .nil, Nat.zero_le _, fun _ z => nomatch z⟩
    · rintro i σ H' _ ⟨_, _, _, _, z, _⟩
      exact SqL.of z
    · rintro i x σ H' hx ⟨o3, o4, rfl, e, hn, xs, es, hf, hev, hl, hs⟩
      obtain ⟨y, hy, rfl⟩ : ∃ y, y ∈ namesL ∧ x = .str y := by
        obtain ⟨y, h1, h2⟩ := List.mem_map.mp (List.mem_of_getElem? hx)
        exact ⟨y, h1, h2.symm⟩
      have ly := namesL_short y hy
      have hi : i < 8 := (List.getElem?_eq_some_iff.mp hx).1
      walk_at "go"
      intro tt htt
      have s3 := same_new (o := .tup [.bl false, .bl true]) htt
      refine ⟨tt, rfl, ⟨_, SqT.of upd_same⟩, ?_⟩
      refine for_tpl (xs := [.bl false, .bl true]) (fun j σ H2 => ∃ o4, σ = [some (.ref s0), some (.ref nl), some (.ref fl), some (.str y), o4] ∧ Same H H2 ∧ H2 nl = some (.lst (namesL.map V.str)) ∧ H2 tt = some (.tup [.bl false, .bl true]) ∧ ∃ xs es, H2 fl = some (.lst xs) ∧ EndsV K H2 xs es ∧ es.length ≤ 2 * i + j ∧ Short es) ?_ ?_ ?_ ?_
      · exact ⟨_, rfl, e.trans s3, s3 _ _ hn, upd_same, xs, es, s3 _ _ hf, EndsV.keep hev (Same.keep s3), by omega, hs⟩
      · rintro j σ H2 _ ⟨_, _, _, _, z, _⟩
        exact SqT.of z
      · rintro j x σ H2 hx2 ⟨o4, rfl, e2, hn2, ht2, xs2, es2, hf2, hev2, hl2, hs2⟩
        obtain ⟨b, rfl⟩ : ∃ b, x = .bl b := by
          have z := List.mem_of_getElem? hx2
          rcases List.mem_cons.mp z with z | z
          · exact ⟨_, z⟩
          · exact ⟨_, List.mem_singleton.mp z⟩
        have hj : j < 2 := (List.getElem?_eq_some_iff.mp hx2).1
        have hS2 := hS.mono e2
        walk_at "go"
        intro v hv0 hv1
        walk_at "go"
        refine ite_d (fun c => ?_) (fun c => ?_)
        · walk_at "go"
          refine ⟨.inl ⟨rfl, _, SqL.of hf2⟩, ?_⟩
          walk_at "go"
          refine ⟨by show 2 ≤ sizeLine; decide, fun q hq => ?_⟩
          have s4 := same_new (o := .tup [.str y, .bl b]) hq
          have lx : xs2.length ≤ 100 := by rw [Paired.length hev2]; omega
          refine ⟨fl, xs2, _, rfl, rfl, s4 _ _ hf2, by rw [sizeLine_eq]; omega, ?_⟩
          have kd := keep_upd (o' := .lst (xs2 ++ [.ref q])) (s4 _ _ hf2) rfl
          have ntt : tt ≠ fl := ne_of ht2 hf2 (fun z => nomatch z)
          refine ⟨_, rfl, same_upd (e2.trans s4) hfH, by rw [upd_ne nfl]; exact s4 _ _ hn2, by rw [upd_ne ntt]; exact s4 _ _ ht2, _, es2 ++ [(y, b)], upd_same, ?_, by rw [List.length_append, List.length_singleton]; omega, ?_⟩
          · exact Paired.app (EndsV.keep hev2 (Keep.trans (Same.keep s4) kd)) (.cons ⟨q, rfl, SqT.keep (SqT.of upd_same) kd⟩ .nil)
          · intro e he
            rcases List.mem_append.mp he with z | z
            · exact hs2 e z
            · rw [List.mem_singleton.mp z]; exact ly
        · walk_at "go"
          exact ⟨_, _, hf2, hev2, by omega, hs2⟩
      · rintro σ H2 ⟨o4, rfl, e2, hn2, _, xs2, es2, hf2, hev2, hl2, hs2⟩
        exact ⟨_, _, rfl, e2, hn2, xs2, es2, hf2, hev2, hl2, hs2⟩
    · rintro σ H' ⟨o3, o4, rfl, e, hn, xs, es, hf, hev, hl, hs⟩
      walk_at "go"
      exact k fl xs es H' e hf hev hl hs
end
theorem cutN1 (x : V) (r : List V) : cutV (x :: r) none (some 1) = [x] := by simp [cutV, HT.sIx]
def fieldL : List Str := ["v", "i", "p1", "m_f"]
theorem fieldL_short : ∀ x ∈ fieldL, x.length ≤ 100 := by decide +kernel
def encE (e : End) : PyData := .tuple [.str e.1, .bool e.2]
theorem encE_alike (a b : End) : PySem.W.alike (encE a) (encE b) = true := by simp [encE, PySem.W.alike, PySem.W.alikeAll]
theorem endV_dat {K : PySem.W.Frag} {H : Hp} {v : V} {e : End} (h : EndV K H v e) : DatV K H v (encE e) := by
  obtain ⟨t, rfl, h⟩ := h
  exact .tup h (.cons (.str _) (.cons (.bl _) .nil))
theorem ends_bs {K : PySem.W.Frag} {H : Hp} : ∀ {xs : List V} {es : List End}, EndsV K H xs es → ∃ bs : List VD, bs.map (·.1) = xs ∧ ∀ b ∈ bs, DatV K H b.1 b.2 ∧ b.2.depth ≤ 8 ∧ ∃ e ∈ es, b.2 = encE e ∧ EndV K H b.1 e
  | _, _, .nil => ⟨[], rfl, fun _ z => nomatch z⟩
  | _, _, @Paired.cons _ _ _ x e xs es r t => by
    obtain ⟨bs, h1, h2⟩ := ends_bs t
    refine ⟨(x, encE e) :: bs, by rw [List.map_cons, h1], fun b hb => ?_⟩
    rcases List.mem_cons.mp hb with z | z
    · subst z
      exact ⟨endV_dat r, by simp [encE, PyData.depth, PyData.depthAll], e, List.mem_cons_self, rfl, r⟩
    · obtain ⟨a, b', e', he', q⟩ := h2 b z
      exact ⟨a, b', e', List.mem_cons_of_mem _ he', q⟩
theorem ends_some {K : PySem.W.Frag} {H : Hp} : ∀ (ys : List V), (∀ v ∈ ys, ∃ e : End, EndV K H v e ∧ e.1.length ≤ 100) → ∃ es, EndsV K H ys es ∧ Short es
  | [], _ => ⟨[], .nil, fun _ z => nomatch z⟩
  | v :: ys, h => by
    obtain ⟨e, h1, h2⟩ := h v List.mem_cons_self
    obtain ⟨es, h3, h4⟩ := ends_some ys fun u hu => h u (List.mem_cons_of_mem _ hu)
    refine ⟨e :: es, .cons h1 h3, fun x hx => ?_⟩
    rcases List.mem_cons.mp hx with z | z
    · rw [z]; exact h2
    · exact h4 x z
theorem mem_cutV {xs : List V} {a b : Option Int} {v : V} (h : v ∈ cutV xs a b) : v ∈ xs := by
  unfold cutV at h
  exact List.mem_of_mem_drop (List.mem_of_mem_take h)
theorem Paired.mem_left {α β : Type} {F : α → β → Prop} : ∀ {xs : List α} {ys : List β} {x : α}, Paired F xs ys → x ∈ xs → ∃ y ∈ ys, F x y
  | _, _, _, .nil, h => nomatch h
  | _, _, _, .cons r t, h => by
    rcases List.mem_cons.mp h with z | z
    · rw [z]; exact ⟨_, List.mem_cons_self, r⟩
    · obtain ⟨y, h1, h2⟩ := Paired.mem_left t z
      exact ⟨y, List.mem_cons_of_mem _ h1, h2⟩
theorem Paired.prs {K : PySem.W.Frag} {H : Hp} {D : Eqv} {es : List End} (h : ∀ x y e, EndV K H x e → EndV K H y e → D x y H) : ∀ {xs ys : List V}, EndsV K H xs es → EndsV K H ys es → Prs D xs ys H := by
  intro xs ys h1
  induction h1 generalizing ys with
  | nil => intro h2; cases h2; exact Prs.nil
  | cons r t ih =>
    intro h2
    cases h2 with
    | cons r2 t2 => exact Prs.cons (h _ _ _ r r2) (ih t2)
theorem endV_eq {K : PySem.W.Frag} {H : Hp} (x y : V) (e : End) (h1 : EndV K H x e) (h2 : EndV K H y e) : DTr K 1 x y H := by
  obtain ⟨t, rfl, h1⟩ := h1
  obtain ⟨u, rfl, h2⟩ := h2
  refine .inr ⟨_, _, _, _, rfl, rfl, h1, h2, Prs.cons (dflat_str 0 _) (Prs.cons ?_ Prs.nil)⟩
  exact .inl ⟨rfl, rfl, by cases e.2 <;> rfl⟩
/-! ### how deep the equations are -/
theorem mput_shallow {n : Nat} {l : List (Key × Eqn)} {k : Key} {e : Eqn} (h : Shallow n l) (he : e.1.deep ≤ n ∧ e.2.deep ≤ n) : Shallow n (mput l k e) := by
  unfold mput
  split
  · intro q hq
    obtain ⟨p, hp, rfl⟩ := List.mem_map.mp hq
    split
    · exact he
    · exact h p hp
  · intro q hq
    rcases List.mem_append.mp hq with z | z
    · exact h q z
    · rw [List.mem_singleton.mp z]; exact he
theorem foldl_put_shallow {n : Nat} {g : End → Key × Eqn} (hg : ∀ e, (g e).2.1.deep ≤ n ∧ (g e).2.2.deep ≤ n) : ∀ (l : List End) (acc : List (Key × Eqn)), Shallow n acc → Shallow n (l.foldl (fun a e => mput a (g e).1 (g e).2) acc)
  | [], _, h => h
  | e :: l, acc, h => foldl_put_shallow hg l _ (mput_shallow h (hg e))
theorem sum_deep : ∀ (l : List Tr) (t : Tr) (n : Nat), t.deep ≤ n → (∀ u ∈ l, u.deep ≤ 2) → 2 ≤ n → (l.foldl .add t).deep ≤ n + l.length
  | [], t, n, h, _, _ => h
  | u :: l, t, n, h, hl, h2 => by
    have z := sum_deep l (.add t u) (n + 1) (by
      show max t.deep u.deep + 1 ≤ n + 1
      have := hl u List.mem_cons_self
      omega) (fun v hv => hl v (List.mem_cons_of_mem _ hv)) (by omega)
    rw [List.foldl_cons, List.length_cons]
    omega
theorem term_deep (f : Str) (e : End) : (termS f e).deep ≤ 2 := by
  unfold termS
  split
  · exact Nat.le_refl 2
  · exact Nat.le_succ 1
theorem sumS_deep (l : List Tr) (h : ∀ u ∈ l, u.deep ≤ 2) : (sumS l).deep ≤ 2 + l.length := by
  cases l with
  | nil => decide
  | cons t l =>
    have z := sum_deep l t 2 (h t List.mem_cons_self) (fun u hu => h u (List.mem_cons_of_mem _ hu)) (Nat.le_refl 2)
    show (l.foldl .add t).deep ≤ _
    rw [List.length_cons]
    omega
theorem eqsS_shallow {es : List End} (h : es.length ≤ 16) (f : End) {acc : List (Key × Eqn)} (ha : Shallow 19 acc) : Shallow 19 (eqsS es f acc) := by
  unfold eqsS
  split
  · exact foldl_put_shallow (g := fun e => (.inr (nmS e f.1), (vrS (e0S es) f.1, vrS e f.1))) (fun e => ⟨show (1 : Nat) ≤ 19 from by decide, show (1 : Nat) ≤ 19 from by decide⟩) _ _ ha
  · split
    · refine mput_shallow ha ⟨?_, show (1 : Nat) ≤ 19 from by decide⟩
      have z := sumS_deep (es.map (termS f.1)) (fun u hu => by obtain ⟨e, _, rfl⟩ := List.mem_map.mp hu; exact term_deep _ _)
      rw [List.length_map] at z
      exact Nat.le_trans z (by omega)
    · exact ha
theorem setS_shallow {es : List End} (h : es.length ≤ 16) : ∀ (fs : List End) (acc : List (Key × Eqn)), Shallow 19 acc → Shallow 19 (fs.foldl (fun a f => eqsS es f a) acc)
  | [], _, ha => ha
  | f :: fs, _, ha => setS_shallow h fs _ (eqsS_shallow h f ha)
theorem find_nodup {l : List (Key × Eqn)} {k : Key} {e : Eqn} (nd : (l.map (·.1)).Nodup) (h : (k, e) ∈ l) : (l.find? fun q => decide (q.1 = k)).map (·.2) = some e := by
  induction l with
  | nil => cases h
  | cons p l ih =>
    rw [List.map_cons, List.nodup_cons] at nd
    rw [List.find?_cons]
    by_cases c : p.1 = k
    · rw [decide_eq_true c]
      rcases List.mem_cons.mp h with z | z
      · rw [← z]; rfl
      · exact absurd (List.mem_map.mpr ⟨_, z, c.symm⟩) nd.1
    · rw [decide_eq_false c]
      rcases List.mem_cons.mp h with z | z
      · rw [← z] at c; exact absurd rfl c
      · exact ih nd.2 z
/-- two dicts of the same equations are equal -/
theorem dict_eq {K : PySem.W.Frag} {H : Hp} {a b : Addr} {l : List (Key × Eqn)} (ne : a ≠ b) (ha : DictV K H a l) (hb : DictV K H b l) (hs : Shallow 19 l) (nd : (l.map (·.1)).Nodup) : DDict (DTr K 20) (.ref a) (.ref b) H := by
  obtain ⟨ka, ea, va⟩ := ha
  obtain ⟨kb, eb, vb⟩ := hb
  refine ⟨a, b, ka, kb, rfl, rfl, ne, ea, eb, by rw [Paired.length va, Paired.length vb], fun i k v hi => ?_⟩
  obtain ⟨⟨k', e⟩, hl, r1, r2⟩ := Paired.some va hi
  dsimp only at r1 r2
  subst r1
  have f : (l.find? fun q => decide (q.1 = k)).map (·.2) = some e := find_nodup nd (List.mem_of_getElem? hl)
  obtain ⟨u, hu, r3⟩ := vb.val k e f
  have kh := keep_hide ea rfl eb rfl
  have z := hs _ (List.mem_of_getElem? hl)
  exact ⟨u, hu, EqnV.eq (EqnV.keep r2 kh) (EqnV.keep r3 kh) z.1 z.2⟩
theorem mput_nodup {l : List (Key × Eqn)} {k : Key} {e : Eqn} (h : (l.map (·.1)).Nodup) : ((mput l k e).map (·.1)).Nodup := by
  unfold mput
  split
  · have z : (l.map fun q => if q.1 = k then (q.1, e) else q).map (·.1) = l.map (·.1) := by
      rw [List.map_map]
      refine List.map_congr_left fun q _ => ?_
      show (if q.1 = k then (q.1, e) else q).1 = q.1
      split <;> rfl
    rw [z]
    exact h
  · rename_i c
    rw [List.map_append, List.nodup_append]
    refine ⟨h, List.nodup_cons.mpr ⟨List.not_mem_nil, List.nodup_nil⟩, fun x hx y hy => ?_⟩
    have hy' : y = k := by simpa using hy
    intro z
    obtain ⟨q, hq, e1⟩ := List.mem_map.mp hx
    apply c
    rw [List.any_eq_true]
    exact ⟨q, hq, by rw [decide_eq_true]; rw [e1, z, hy']⟩
theorem eqsS_nodup {es : List End} {f : End} {acc : List (Key × Eqn)} (h : (acc.map (·.1)).Nodup) : ((eqsS es f acc).map (·.1)).Nodup := by
  unfold eqsS
  split
  · generalize es.drop 1 = l
    induction l generalizing acc with
    | nil => exact h
    | cons e l ih => exact ih (mput_nodup h)
  · split
    · exact mput_nodup h
    · exact h
theorem setS_nodup {es : List End} : ∀ (fs : List End) (acc : List (Key × Eqn)), (acc.map (·.1)).Nodup → ((fs.foldl (fun a f => eqsS es f a) acc).map (·.1)).Nodup
  | [], _, h => h
  | _ :: fs, _, h => setS_nodup fs _ (eqsS_nodup h)
section
variable {P : Program} {w : World} {K : PySem.W.Frag} {mg : Str → Option Value} {base : Heap}
theorem rnLs (T : Top w K mg) {X : Cx} (n : Nat) (hp : X.prog = P := by rfl) (hw : X.w = w := by rfl) (hk : X.K = K := by rfl) (hm : X.mg = mg := by rfl) : RnG X (1 + n + 1) (DList (DTr K n)) := rnG_list (mon_tr K n) (eqTr T hp hw hk hm n)
def spLaw (K : PySem.W.Frag) : Sp := fun vs H Q _ => ∃ (a : Addr) (ns : List Int), vs = [.ref a] ∧ SqL K H a (ns.map V.int) ∧ ns.length ≤ 63 ∧ ∀ H', Q (.bl true) H'
theorem ok_law (T : Top w K mg) : FnOk P w K mg base CX0 24 (He.ga K ("law" : Str)) (fdOf K d_law) ["script"] (spLaw K) := by
  refine (T.f_law).ok sc_law (fun vs H Q E h => ?_) (fun cdv A outer s H vs Q E hr h => ?_)
  · obtain ⟨a, ns, rfl, _⟩ := h
    rfl
  · obtain ⟨sa, ns, rfl, hS, h63, k⟩ := h
    refine ⟨_, PSs.nox (pss_cons (ps_set (i := 1) sc_law.nd rfl (Or.inl rfl) (pe_call (ok__law_stream (K := K) T) (hr.mono (by decide)) rfl T.g__law_stream T.f__law_stream.kp T.b__law_stream .nil pass0 (pa_cons (pv 0) pa_nil)))
    (pss_cons (ps_set (i := 2) sc_law.nd rfl (Or.inl rfl) (pe_slice sl_list (pe_callB (cr_sortedD hr.units) (by rfl) T.n_sorted (by decide +kernel) (pa_cons (pe_call (ok__law_ends (K := K) T) (hr.mono (by decide)) rfl T.g__law_ends T.f__law_ends.kp T.b__law_ends .nil pass0 (pa_cons (pv 1) pa_nil)) pa_nil)) po_none (po_some pe_int)))
    (C8.pss_cut (ps_if (pt_cmpR op_eq (pe_callB (call_lenK (K := K) rfl) (by rfl) T.n_len PySem.boot_len (pa_cons (pv 2) pa_nil)) pe_int (nomark _))
    (pss_one (ps_set (i := 2) sc_law.nd rfl (Or.inl rfl) (pe_lst (pa_cons (pe_tup (pa_cons pe_str (pa_cons (pe_cmpR op_eq (pe_call (ok__law_draw (K := K) T) (hr.mono (by decide)) rfl T.g__law_draw T.f__law_draw.kp T.b__law_draw .nil pass0 (pa_cons (pv 1) (pa_cons pe_int pa_nil))) pe_int (nomark _)) pa_nil))) pa_nil))))
    pss_nil)
    (C8.pss_cut (ps_if (pt_cmpR op_eq (pe_call (ok__law_draw (K := K) T) (hr.mono (by decide)) rfl T.g__law_draw T.f__law_draw.kp T.b__law_draw .nil pass0 (pa_cons (pv 1) (pa_cons pe_int pa_nil))) pe_int (nomark _))
    (pss_one (ps_set (i := 2) sc_law.nd rfl (Or.inl rfl) (pe_slice sl_list (pv 2) po_none (po_some pe_int))))
    pss_nil)
    (pss_cons (ps_set (i := 3) sc_law.nd rfl (Or.inl rfl) (pe_lst pa_nil))
    (pss_cons (ps_for PassesOwn.never rfl (pi_listK (K := K) rfl (pe_lst (pa_cons pe_str (pa_cons pe_str (pa_cons pe_str (pa_cons pe_str pa_nil)))))) (pg_name (i := 4) sc_law.nd rfl (Or.inl rfl))
    (pss_one (ps_if (pt_cmpR op_gt (pe_call (ok__law_draw (K := K) T) (hr.mono (by decide)) rfl T.g__law_draw T.f__law_draw.kp T.b__law_draw .nil pass0 (pa_cons (pv 1) (pa_cons pe_int pa_nil))) pe_int (nomark _))
    (pss_one (ps_set (i := 3) sc_law.nd rfl (Or.inl rfl) (pe_op op_cat (pe_lst (pa_cons (pe_tup (pa_cons (pv 4) (pa_cons (pe_cmpR op_eq (pe_call (ok__law_draw (K := K) T) (hr.mono (by decide)) rfl T.g__law_draw T.f__law_draw.kp T.b__law_draw .nil pass0 (pa_cons (pv 1) (pa_cons pe_int pa_nil))) pe_int (nomark _)) pa_nil))) pa_nil)) (pv 3))))
    pss_nil)))
    (pss_cons (ps_set (i := 5) sc_law.nd rfl (Or.inl rfl) (pe_callTy (call_listK (K := K) rfl) (by rfl) T.n_list (by decide +kernel) (pa_cons (pv 2) pa_nil)))
    (pss_cons (ps_set (i := 6) sc_law.nd rfl (Or.inl rfl) (pe_callTy (call_listK (K := K) rfl) (by rfl) T.n_list (by decide +kernel) (pa_cons (pv 3) pa_nil)))
    (pss_cons (ps_set (i := 7) sc_law.nd rfl (Or.inl rfl) (pe_call (ok_set_equations (K := K) T) (hr.mono (by decide)) rfl T.g_set_equations T.f_set_equations.kp T.b_set_equations .nil pass0 (pa_cons (pv 5) (pa_cons (pv 6) pa_nil))))
    (pss_cons (ps_if (PW.pt (pw_or (pt_not (pt_val (pe_callB (call_isiK' (K := K) rfl) (by rfl) T.n_isinstance (by decide +kernel) (pa_cons (pv 7) (pa_cons (pe_bltn (v := .ty "dict") rfl T.n_dict (by decide +kernel) rfl) pa_nil))))) (pw_or (pt_cmpR (op_neG (rnLs T 1) (hr.mono (by decide))) (pv 5) (pv 2) (nomark _)) (pw_or (pt_cmpR (op_neG (rnLs T 1) (hr.mono (by decide))) (pv 6) (pv 3) (nomark _)) (pw_or1 (pt_cmpR (op_neG (rnTr T 20) (hr.mono (by decide))) (pv 7) (pe_call (ok__law_due (K := K) T) (hr.mono (by decide)) rfl T.g__law_due T.f__law_due.kp T.b__law_due .nil pass0 (pa_cons (pv 2) (pa_cons (pv 3) pa_nil))) (nomark _)))))))
    (pss_one (ps_ret pe_bl))
    pss_nil)
    (pss_cons (ps_expr (pe_dclear (pv 7)))
    (pss_one (ps_ret (pe_cmpR (op_eqG (rcTr T 20) (hr.mono (by decide))) (pe_call (ok_set_equations (K := K) T) (hr.mono (by decide)) rfl T.g_set_equations T.f_set_equations.kp T.b_set_equations .nil pass0 (pa_cons (pv 5) (pa_cons (pv 6) pa_nil))) (pe_call (ok__law_due (K := K) T) (hr.mono (by decide)) rfl T.g__law_due T.f__law_due.kp T.b__law_due .nil pass0 (pa_cons (pv 2) (pa_cons (pv 3) pa_nil))) (nomark _))))))))))))))), ?_⟩
    walk_at "go"
    refine ⟨sa, ns, rfl, hS, h63, fun s0 H1 e1 hS1 => ?_⟩
    walk_at "go"
    intro la xs es H2 e2 hla hev hl hs
    walk_at "go"
    obtain ⟨bs, hb1, hb2⟩ := ends_bs hev
    refine ⟨la, bs, rfl, by rw [hb1]; exact SqL.of hla, fun b hb => ⟨(hb2 b hb).1, (hb2 b hb).2.1⟩, ?_, ?_, fun p hp => ?_⟩
    · intro d hd d' hd'
      obtain ⟨b, hb, rfl⟩ := List.mem_map.mp hd
      obtain ⟨b', hb', rfl⟩ := List.mem_map.mp hd'
      obtain ⟨e, _, h1, _⟩ := (hb2 b hb).2.2
      obtain ⟨e', _, h2, _⟩ := (hb2 b' hb').2.2
      rw [h1, h2]
      exact encE_alike e e'
    · refine .inl fun d hd => ?_
      obtain ⟨b, hb, rfl⟩ := List.mem_map.mp hd
      obtain ⟨e, _, h1, _⟩ := (hb2 b hb).2.2
      exact ⟨_, _, h1⟩
    have e3 := same_new (o := .lst ((sortD bs).map (·.1))) hp
    refine ⟨_, rfl, _, _, rfl, SqL.of upd_same, fun q hq => ?_⟩
    have e4 := e3.trans (same_new (o := .lst (cutV ((sortD bs).map (·.1)) none (some 8))) hq)
    obtain ⟨es1, hev1, hs1⟩ : ∃ es, EndsV K H2 (cutV ((sortD bs).map (·.1)) none (some 8)) es ∧ Short es := by
      refine ends_some _ fun v hv => ?_
      obtain ⟨b, hb, rfl⟩ := List.mem_map.mp (mem_cutV hv)
      obtain ⟨e, he, _, h1⟩ := (hb2 b ((sortD_perm bs).mem_iff.mp hb)).2.2
      exact ⟨e, h1, hs e he⟩
    have hl1 : (cutV ((sortD bs).map (·.1)) none (some 8)).length ≤ 16 := by
      refine Nat.le_trans (cutV_length _ _ _) ?_
      rw [List.length_map, (sortD_perm bs).length_eq, ← List.length_map (f := (·.1)), hb1, Paired.length hev]
      exact hl
    generalize cutV ((sortD bs).map (·.1)) none (some 8) = xs1 at e4 hev1 hl1 ⊢
    have hq2 : upd (upd H2 p (.lst ((sortD bs).map (·.1)))) q (.lst xs1) q = some (.lst xs1) := upd_same
    generalize upd (upd H2 p (.lst ((sortD bs).map (·.1)))) q (.lst xs1) = H3 at e4 hq2 ⊢
    have e13 := e2.trans e4
    -- at least one end
    refine r_cut (fun σ H' => ∃ (q : Addr) (xs : List V) (es : List End), σ = [some (.ref sa), some (.ref s0), some (.ref q), none, none, none, none, none] ∧ Same H1 H' ∧ H' q = some (.lst xs) ∧ EndsV K H' xs es ∧ xs.length ≤ 16 ∧ 0 < xs.length ∧ Short es) ?_ ?_
    · walk_at "go"
      have hS3 := hS1.mono e13
      refine ⟨_, _, rfl, .inl (SqL.of hq2), ?_⟩
      walk_at "go"
      refine ite_d (fun c => ?_) (fun c => ?_)
      · walk_at "go"
        intro v _ _
        walk_at "go"
        refine ⟨by show 2 ≤ sizeLine; decide, fun t ht => ?_⟩
        have s5 := same_new (o := .tup [.str "a", .bl (decide (V.int v = V.int 0))]) ht
        walk_at "go"
        refine ⟨by show 1 ≤ sizeLine; decide, fun l hl => ?_⟩
        have s6 := same_new (o := .lst [.ref t]) hl
        walk_at "go"
        refine ⟨l, [.ref t], [("a", decide (V.int v = V.int 0))], rfl, e13.trans (s5.trans s6), upd_same, .cons ⟨t, rfl, SqT.same (SqT.of upd_same) s6⟩ .nil, (show 1 ≤ 16 by decide), (show 0 < 1 by decide), fun e he => ?_⟩
        rw [List.mem_singleton.mp he]
        show (Str.ofString "a").length ≤ 100
        decide +kernel
      · walk_at "go"
        refine ⟨q, xs1, es1, rfl, e13, hq2, EndsV.keep hev1 (Same.keep e4), hl1, ?_, hs1⟩
        have c' := vint_ne c
        omega
    · rintro σ H4 ⟨q, xs, es, rfl, e4, hq, hev, hl, h0, hs⟩
      have hS4 := hS1.mono e4
      refine r_cut (fun σ H' => ∃ (q : Addr) (xs : List V) (es : List End), σ = [some (.ref sa), some (.ref s0), some (.ref q), none, none, none, none, none] ∧ Same H1 H' ∧ H' q = some (.lst xs) ∧ EndsV K H' xs es ∧ xs.length ≤ 16 ∧ 0 < xs.length ∧ Short es) ?_ ?_
      · walk_at "go"
        intro v _ _
        walk_at "go"
        refine ite_d (fun c => ?_) (fun c => ?_)
        · walk_at "go"
          refine ⟨_, _, rfl, SqL.of hq, fun p hp => ?_⟩
          have s5 := same_new (o := .lst (cutV xs none (some 1))) hp
          obtain ⟨x, r, rfl⟩ : ∃ x r, xs = x :: r := by cases xs with | nil => exact absurd h0 (Nat.lt_irrefl 0) | cons x r => exact ⟨x, r, rfl⟩
          cases hev with
          | @cons _ en _ er h1 h2 =>
          rw [cutN1] at s5 ⊢
          exact ⟨p, [x], [en], rfl, e4.trans s5, upd_same,   .cons (h1.keep (Same.keep s5)) .nil, (show 1 ≤ 16 by decide), (show 0 < 1 by decide), fun e he => hs e (by rw [List.mem_singleton.mp he]; exact List.mem_cons_self)⟩
        · walk_at "go"
          exact ⟨q, xs, es, rfl, e4, hq, hev, hl, h0, hs⟩
      · rintro σ H5 ⟨q, xs, es, rfl, e5, hq, hev, hl, h0, hs⟩
        have hS5 := hS1.mono e5
        walk_at "go"
        intro fl hfl
        have s6 := same_new (o := .lst []) hfl
        walk_at "go"
        intro nl hnl
        have s7 := s6.trans (same_new (o := .lst (fieldL.map V.str)) hnl)
        refine ⟨nl, rfl, ⟨_, SqL.of upd_same⟩, ?_⟩
        refine for_lst (xs := fieldL.map V.str) (fun i σ H' => ∃ fl o4 ys fs, σ = [some (.ref sa), some (.ref s0), some (.ref q), some (.ref fl), o4, none, none, none] ∧ Same H5 H' ∧ H' nl = some (.lst (fieldL.map V.str)) ∧ H' fl = some (.lst ys) ∧ EndsV K H' ys fs ∧ fs.length ≤ i ∧ Short fs) ?_ ?_ ?_ ?_
        · exact ⟨fl, _, [], [], rfl, s7, upd_same, by rw [upd_ne (ne_of_none upd_same hnl)]; exact upd_same, .nil, Nat.zero_le _, fun _ z => nomatch z⟩
        · rintro i σ H' _ ⟨_, _, _, _, _, _, z, _⟩
          exact SqL.of z
        · rintro i x σ H' hx ⟨fl, o4, ys, fs, rfl, e6, hn, hf, hfv, hfl, hfs⟩
          obtain ⟨y, hy, rfl⟩ : ∃ y, y ∈ fieldL ∧ x = .str y := by
            obtain ⟨y, h1, h2⟩ := List.mem_map.mp (List.mem_of_getElem? hx)
            exact ⟨y, h1, h2.symm⟩
          have ly := fieldL_short y hy
          have hi : i < 4 := (List.getElem?_eq_some_iff.mp hx).1
          have hS6 := hS5.mono e6
          walk_at "go"
          intro v _ _
          walk_at "go"
          refine ite_d (fun c => ?_) (fun c => ?_)
          · walk_at "go"
            intro v2 _ _
            walk_at "go"
            refine ⟨by show 2 ≤ sizeLine; decide, fun t ht => ?_⟩
            have s8 := same_new (o := .tup [.str y, .bl (decide (V.int v2 = V.int 0))]) ht
            walk_at "go"
            refine ⟨by show 1 ≤ sizeLine; decide, fun l hl => ?_⟩
            have s9 := s8.trans (same_new (o := .lst [.ref t]) hl)
            walk_at "go"
            have lys : ys.length ≤ 4 := by rw [Paired.length hfv]; omega
            refine ⟨_, _, _, _, rfl, rfl, upd_same, s9 _ _ hf, by rw [List.length_singleton, sizeLine_eq]; omega, fun p hp => ?_⟩
            have s10 := s9.trans (same_new (o := .lst ([.ref t] ++ ys)) hp)
            refine ⟨p, _, _, (y, decide (V.int v2 = V.int 0)) :: fs, rfl, e6.trans s10, s10 _ _ hn, upd_same, .cons ⟨t, rfl, ?_⟩ (EndsV.keep hfv (Same.keep s10)), by rw [List.length_cons]; omega, ?_⟩
            · exact SqT.same (SqT.same (SqT.of upd_same) (same_new hl)) (same_new hp)
            · intro e he
              rcases List.mem_cons.mp he with z | z
              · rw [z]; exact ly
              · exact hfs e z
          · walk_at "go"
            exact ⟨fl, _, ys, fs, rfl, e6, hn, hf, hfv, by omega, hfs⟩
        · rintro σ H6 ⟨fl, o4, ys, fs, rfl, e6, hn, hf, hfv, hfl, hfs⟩
          have hfl : fs.length ≤ 4 := hfl
          have les : es.length ≤ 16 := by rw [← Paired.length hev]; exact hl
          have l0s : 0 < es.length := by rw [← Paired.length hev]; exact h0
          have shE : Shallow 19 (setS es fs) := setS_shallow les fs [] (fun _ z => nomatch z)
          have ndE : ((setS es fs).map (·.1)).Nodup := setS_nodup fs [] List.nodup_nil
          have hq6 := e6 _ _ hq
          have hev6 := EndsV.keep hev (Same.keep e6)
          walk_at "go"
          refine ⟨_, _, rfl, .inl (SqL.of hq6), fun gl hgl => ?_⟩
          have s7 := same_new (o := .lst xs) hgl
          walk_at "go"
          refine ⟨_, _, rfl, .inl (SqL.of (s7 _ _ hf)), fun rl hrl => ?_⟩
          have s8 := s7.trans (same_new (o := .lst ys) hrl)
          have hgl8 := same_new (o := .lst ys) hrl _ _ upd_same
          have hrl8 : upd (upd H6 gl (.lst xs)) rl (.lst ys) rl = some (.lst ys) := upd_same
          generalize upd (upd H6 gl (.lst xs)) rl (.lst ys) = H8 at s8 hgl8 hrl8 ⊢
          have hev8 := EndsV.keep hev6 (Same.keep s8)
          have hfv8 := EndsV.keep hfv (Same.keep s8)
          have hq8 := s8 _ _ hq6
          have hf8 := s8 _ _ hf
          walk_at "go"
          refine ⟨gl, rl, xs, ys, es, fs, rfl, SqL.of hgl8, SqL.of hrl8, hev8, hfv8, l0s, les, by omega, hs, hfs, fun d H9 s9 hd hD => ?_⟩
          obtain ⟨kvs, hk, _⟩ := id hD
          walk_at "go"
          refine r_isi (.base (.dK hk)) (.ty _) (of_decide_eq_true T.x_kit_t_dict_t_dict) ?_
          walk_at "go"
          have hev9 := EndsV.keep hev8 (Same.keep s9)
          have hfv9 := EndsV.keep hfv8 (Same.keep s9)
          refine ⟨⟨_, _, xs, xs, rfl, rfl, s9 _ _ hgl8, s9 _ _ hq8, Paired.prs endV_eq hev9 hev9⟩, fun H10 s10 => ?_⟩
          walk_at "go"
          refine ⟨⟨_, _, ys, ys, rfl, rfl, s10 _ _ (s9 _ _ hrl8), s10 _ _ (s9 _ _ hf8), Paired.prs endV_eq (EndsV.keep hfv9 (Same.keep s10)) (EndsV.keep hfv9 (Same.keep s10))⟩, fun H11 s11 => ?_⟩
          walk_at "go"
          have s811 : Same H8 H11 := s9.trans (s10.trans s11)
          refine ⟨q, fl, xs, ys, es, fs, rfl, SqL.of (s811 _ _ hq8), SqL.of (s811 _ _ hf8), EndsV.keep hev8 (Same.keep s811), EndsV.keep hfv8 (Same.keep s811), l0s, les, by omega, hs, hfs, fun d2 H12 s12 hd2 hD2 => ?_⟩
          have hk12 : H12 d = some (.dK kvs) := s12 _ _ (s11 _ _ (s10 _ _ hk))
          have nd2 : d ≠ d2 := ne_of_none (s11 _ _ (s10 _ _ hk)) hd2
          have hD12 : DictV K H12 d (setS es fs) := by
            obtain ⟨kv, h1, h2⟩ := hD
            exact ⟨kv, s12 _ _ (s11 _ _ (s10 _ _ h1)), KvsV.keep h2 (Same.keep (s10.trans (s11.trans s12)))⟩
          refine ⟨dict_eq nd2 hD12 hD2 shE ndE, fun H13 s13 => ?_⟩
          walk_at "go"
          refine ⟨.inr (.inr (.inl ⟨rfl, .inl ⟨_, s13 _ _ hk12⟩⟩)), d, kvs, rfl, rfl, s13 _ _ hk12, ?_⟩
          have s813 : Same H8 H13 := s811.trans (s12.trans s13)
          have kd : Keep H8 (upd H13 d (.dK [])) := Keep.trans (Same.keep s813) (keep_upd (s13 _ _ hk12) rfl)
          have e14 : Same H8 (upd H13 d (.dK [])) := same_upd s813 hd
          walk_at "go"
          refine ⟨gl, rl, xs, ys, es, fs, rfl, SqL.of (e14 _ _ hgl8), SqL.of (e14 _ _ hrl8), EndsV.keep hev8 kd, EndsV.keep hfv8 kd, l0s, les, by omega, hs, hfs, fun d3 H15 s15 hd3 hD3 => ?_⟩
          walk_at "go"
          have e15 := e14.trans s15
          refine ⟨q, fl, xs, ys, es, fs, rfl, SqL.of (e15 _ _ hq8), SqL.of (e15 _ _ hf8), EndsV.keep hev8 (Same.keep e15), EndsV.keep hfv8 (Same.keep e15), l0s, les, by omega, hs, hfs, fun d4 H16 s16 hd4 hD4 => ?_⟩
          obtain ⟨kv3, h31, h32⟩ := hD3
          exact ⟨dict_eq (ne_of_none h31 hd4) ⟨kv3, s16 _ _ h31, KvsV.keep h32 (Same.keep s16)⟩ hD4 shE ndE, fun H17 _ => k H17⟩
end
theorem facts {P : Program} {w : World} {K : PySem.W.Frag} {h : Heap} {mg : Str → Option Value} {f : Addr} (X : K.In h) (G : h.Ns mainGlobals mg) (hfa : mg ("law" : Str) = some (.ref f)) (c : SaysS faL fnL exB K) :
    ∃ fd : FuncData, (∀ (s : Shared) (v : Value), BindsTo s fd ⟨[v], []⟩ [("script", v)]) ∧ ∀ base : Heap, K.In base → base.Ns mainGlobals mg → FnOk P w K mg base CX0 24 f fd ["script"] (spLaw K) := by
  have T : Top w K mg := ⟨h, X, G, c⟩
  have e := hfa.symm.trans T.g_law
  cases e
  have b := FunD.bindsA (ps := ["script"]) (show FunD K "law" "law" (defArgs s_law) (defBody s_law) (defScope s_law) [] (d_law.kws K) (He.ga K "law") (fdOf K d_law) from T.f_law) fun _ _ _ _ _ _ us hl => match us, hl with | [_], _ => rfl
  exact ⟨fdOf K d_law, fun s v => b s [v] rfl, fun base _ _ => ok_law T⟩
end Lk
open PySem PySem.W PySem.Calls PyProof.Rows
set_option maxRecDepth 100000 in
set_option maxHeartbeats 0 in
theorem PySem.Challenge.cw_linkwork_k16_equations_of_sets_holds : PySem.Challenge.rw_linkwork_k16_equations_of_sets.Holds := by
  w_on; o_law
  refine HeadRun.head_imp (r := OpenLaw.row PySem.Challenge.rw_linkwork_k16_equations_of_sets) (q := Lk.qv) (H := Lk.hk) (ob := Lk.ob) (M := 4000) (loose := Lk.looseL) (d := HandSHeadRun.topDef (OpenLaw.row PySem.Challenge.rw_linkwork_k16_equations_of_sets).prog 18) (kwd := []) Lk.ob_eq Lk.run (by kernel_rfl) (by kernel_rfl) (by kernel_rfl) (by rfl) (by first | assumption | decide +kernel) (by decide +kernel) ⟨rfl, rfl, rfl, rfl, rfl, by decide +kernel⟩ ?hw ?hc
  case hw => w_witness2
  case hc =>
    refine L2.walk_ofE (l := PySem.Challenge.rw_linkwork_k16_equations_of_sets) (n := 63) (k := 24) (x := "script") (CX := L2.CX0) rfl (by decide) (by kernel_rfl) ⟨rfl, by decide, by decide⟩ ?F (fun _ _ _ _ z => z)
    intro w mg fa h Y G hmg0
    obtain ⟨K, KX, c⟩ := Y
    have hmg : mg ("law" : PySem.Str) = some (.ref fa) := by
      have e : (HandSHeadRun.topDef (OpenLaw.row PySem.Challenge.rw_linkwork_k16_equations_of_sets).prog 18).name = ("law" : PySem.Str) := by kernel_rfl
      rw [← e]
      exact hmg0
    obtain ⟨fd, hb, hF⟩ := Lk.facts (P := (PySem.Challenge.rw_linkwork_k16_equations_of_sets).prog) (w := w) KX G hmg c
    exact ⟨K, fd, Lk.spLaw K, KX, hb, fun H a ns hl _ hS => ⟨a, ns, rfl, hS, hl, fun _ => rfl⟩, hF⟩

